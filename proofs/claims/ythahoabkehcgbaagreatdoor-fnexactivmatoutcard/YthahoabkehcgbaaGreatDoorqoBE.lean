/-
  Contracts that the proofs of this seat share: Wh1, Nat4, Wh2, Wh3, Dec, Nat10.
-/
import Derived.Test.YthahoabkehcgbaaGreatDoorqoBC
import Derived.Deep.RegionHeld3
import Derived.Deep.RegionWith
import Derived.Test.YthahoabkehcgbaaGreatDoorqoBA
import Derived.Deep.QuietTactic
import Derived.BigQuiet
import Derived.Test.YthahoabkehcgbaaGreatDoorqoBB
import Derived.Laws.BytesArg
namespace Go.Proofs.YthahoabkehcgbaaGreatDoor
open Go.RowKit
set_option linter.unusedVariables false
set_option maxRecDepth 8000
set_option linter.unusedSimpArgs false

/-- Is it a whole number as chapter 3 wants it? -/
def wokB (b : Bool) (zs : List Int) : Bool := okB zs && (!b || decide (0 < (zs.length : Int)))
/-- The number that a sign and limbs stand for. -/
def wval (b : Bool) (zs : List Int) : Int := if b = true then - val zs else val zs
theorem wok_int {b : Bool} {zs : List Int} (h : wokB b zs = true) : b = decide (wval b zs < 0) ∧ zs = limbs (wval b zs).natAbs ∧ zs.length ≤ 100 ∧ Nrm zs := by
  unfold wokB at h
  rw [Bool.and_eq_true] at h
  obtain ⟨h1, h2⟩ := h
  obtain ⟨h3, h4⟩ := (okB_iff zs).1 h1
  have h0 := val_nonneg h4.1
  have hl := nrm_limbs h4
  unfold wval
  cases b
  · refine ⟨?_, ?_, h3, h4⟩
    · simp; omega
    · simp
      rw [show (val zs).natAbs = (val zs).toNat by omega]; exact hl
  · simp at h2
    have hne : zs ≠ [] := by intro e; subst e; simp at h2
    have hp := nrm_pow h4 hne
    have hp0 : (0 : Int) < 65536 ^ (zs.length - 1) := Int.pow_pos (by decide)
    refine ⟨?_, ?_, h3, h4⟩
    · simp; omega
    · simp
      rw [show (val zs).natAbs = (val zs).toNat by omega]; exact hl
theorem wokB_bad {b : Bool} {zs : List Int} (h : okB zs = false) : wokB b zs = false := by unfold wokB; rw [h]; rfl

set_option maxHeartbeats 1000000 in
theorem wok_spec {bw : Bool} {lo hi : Nat} {v : Value} {zs : List Int} (b : Bool) (w : World) (r : Row .i64 bw lo hi w v zs) :
    Calls Tryz.prog 122 #[.agg #[.bool b, v]] w fun e w' => e = .returned (.bool (wokB b zs)) ∧ Kept 0 0 w w' := by
  have k0 := (Kept.refl 0 0 w).alloc (.cells #[.bool b, v] 50)
  have q := r.kept k0 (by omega)
  have c0 : (w.alloc (.cells #[.bool b, v] 50)).cell? ⟨w.heap.size, 0, none⟩ = some (.bool b) := new_cell2 _ _ _ _ _ _ rfl rfl
  have c1 : (w.alloc (.cells #[.bool b, v] 50)).cell? ⟨w.heap.size, 1, none⟩ = some v := new_cell2 _ _ _ _ _ _ rfl rfl
  obtain ⟨a, c, rfl⟩ := Row.form' r
  clear r
  go_enter Tryz.func122, Tryz.ntmps122
  go_wp2_with fail
  generalize w.alloc (.cells #[.bool b, .slice a zs.length c] 50) = W at *
  refine (ok_spec _ q).mono ?_
  rintro e w1 ⟨rfl, k1⟩
  replace c0 := k1.cell0 c0
  replace c1 := k1.cell0 c1
  have K := hide (k0.trans k1)
  clear k0 k1 q
  cases hok : okB zs
  · have HK := hide (wokB_bad (b := b) hok)
    clear hok
    go_wp2
    go_ret
    exact ⟨by rw [unhide HK]; rfl, unhide K⟩
  · have HK : Hid (wokB b zs = (!b || decide (0 < (zs.length : Int)))) := by show _ = _; unfold wokB; rw [hok]; rfl
    clear hok
    cases b
    · go_wp2
      go_ret
      exact ⟨by rw [unhide HK]; rfl, unhide K⟩
    · go_wp2
      go_ret
      exact ⟨by rw [unhide HK]; simp, unhide K⟩

set_option maxHeartbeats 1000000 in
theorem make_spec {bw : Bool} {lo hi : Nat} {v : Value} {zs : List Int} (b : Bool) (w : World) (r : Row .i64 bw lo hi w v zs) (hl : Lim zs) (hlen : zs.length ≤ 1000000) :
    Calls Tryz.prog 152 #[.bool b, .agg #[v]] w fun e w' => ∃ v', e = .returned (.agg #[.bool (b && decide (0 < zs.length)), v']) ∧ Row .i64 true w.heap.size w'.heap.size w' v' (limbs (val zs).toNat) ∧ Kept 0 0 w w' := by
  have k0 := ((Kept.refl 0 0 w).alloc (.cells #[v] 48)).alloc (.cells #[.bool false, .slice none 0 0] 50)
  have q := r.kept k0 (by omega)
  have c0 : ((w.alloc (.cells #[v] 48)).alloc (.cells #[.bool false, .slice none 0 0] 50)).cell? ⟨w.heap.size, 0, none⟩ = some v := old_cell _ (new_cell2 _ _ _ _ _ _ rfl rfl)
  have d0 : ((w.alloc (.cells #[v] 48)).alloc (.cells #[.bool false, .slice none 0 0] 50)).cell? ⟨w.heap.size + 1, 0, none⟩ = some (.bool false) := new_cell2 _ _ _ _ _ _ (by simp) rfl
  have d1 : ((w.alloc (.cells #[v] 48)).alloc (.cells #[.bool false, .slice none 0 0] 50)).cell? ⟨w.heap.size + 1, 1, none⟩ = some (.slice none 0 0) := new_cell2 _ _ _ _ _ _ (by simp) rfl
  have f0 : ((w.alloc (.cells #[v] 48)).alloc (.cells #[.bool false, .slice none 0 0] 50)).frozen? ⟨w.heap.size + 1, 0, none⟩ = false := new_loose2 _ _ _ _ _ (by simp)
  have f1 : ((w.alloc (.cells #[v] 48)).alloc (.cells #[.bool false, .slice none 0 0] 50)).frozen? ⟨w.heap.size + 1, 1, none⟩ = false := new_loose2 _ _ _ _ _ (by simp)
  obtain ⟨a, c, rfl⟩ := Row.form' r
  clear r
  obtain ⟨zz, hzz⟩ : ∃ zz, limbs (val zs).toNat = zz := ⟨_, rfl⟩
  rw [hzz]
  have HZ := hide hzz
  clear hzz
  cases b
  · go_enter Tryz.func152, Tryz.ntmps152
    go_wp2_with fail
    generalize (w.alloc (.cells #[.slice a zs.length c] 48)).alloc (.cells #[.bool false, .slice none 0 0] 50) = W at *
    have b0 := World.block_lt_of_cell? _ _ d0
    dsimp only at b0
    have qd := q.kept ((Kept.refl 0 0 _).drew) (by omega)
    have cd : W.drew.cell? ⟨w.heap.size, 0, none⟩ = some (.slice a zs.length c) := c0
    refine wp_region_held_drew (S := fun w' => w'.cell? ⟨w.heap.size, 0, none⟩ = some (.slice a zs.length c)) (by kernel_rfl) ?_ (fun hHeld => ?_)
    · exact cd
    refine wpAnyH_take (i := 0) (oi := _) (v := .bool false) rfl (by kernel_rfl) (by kernel_rfl) (by kernel_rfl) (fun _ _ _ h => h) (Or.inl ⟨by rfl, ?_⟩) hHeld ?_
    · intro w hSw
      try dsimp only at hSw
      go_simp
    try simp only [Act.put, List.getElem_toArray, List.getElem_cons_succ, List.getElem_cons_zero, List.setIfInBounds_toArray, List.set_cons_zero, List.set_cons_succ]
    refine wpAnyH_take (i := 1) (oi := _) (v := .bool false) rfl (by kernel_rfl) (by kernel_rfl) (by kernel_rfl) (fun _ _ _ h => h) (Or.inl ⟨by rfl, ?_⟩) hHeld ?_
    · intro w hSw
      try dsimp only at hSw
      go_simp
    try simp only [Act.put, List.getElem_toArray, List.getElem_cons_succ, List.getElem_cons_zero, List.setIfInBounds_toArray, List.set_cons_zero, List.set_cons_succ]
    refine wpAnyH_take (i := 2) (v := undef) rfl (by kernel_rfl) (by kernel_rfl) (by kernel_rfl) (fun _ _ _ h => h) (Or.inr ⟨by rfl, rfl⟩) hHeld ?_
    try simp only [Act.put, List.getElem_toArray, List.getElem_cons_succ, List.getElem_cons_zero, List.setIfInBounds_toArray, List.set_cons_zero, List.set_cons_succ]
    refine wpAnyH_take (i := 3) (v := undef) rfl (by kernel_rfl) (by kernel_rfl) (by kernel_rfl) (fun _ _ _ h => h) (Or.inr ⟨by rfl, rfl⟩) hHeld ?_
    try simp only [Act.put, List.getElem_toArray, List.getElem_cons_succ, List.getElem_cons_zero, List.setIfInBounds_toArray, List.set_cons_zero, List.set_cons_succ]
    refine wpAnyH_take (i := 4) (v := undef) rfl (by kernel_rfl) (by kernel_rfl) (by kernel_rfl) (fun _ _ _ h => h) (Or.inr ⟨by rfl, rfl⟩) hHeld ?_
    try simp only [Act.put, List.getElem_toArray, List.getElem_cons_succ, List.getElem_cons_zero, List.setIfInBounds_toArray, List.set_cons_zero, List.set_cons_succ]
    refine wpAnyH_take (i := 5) (v := undef) rfl (by kernel_rfl) (by kernel_rfl) (by kernel_rfl) (fun _ _ _ h => h) (Or.inr ⟨by rfl, rfl⟩) hHeld ?_
    try simp only [Act.put, List.getElem_toArray, List.getElem_cons_succ, List.getElem_cons_zero, List.setIfInBounds_toArray, List.set_cons_zero, List.set_cons_succ]
    refine wpAnyH_take (i := 6) (oi := _) (v := .bool false) rfl (by kernel_rfl) (by kernel_rfl) (by kernel_rfl) (fun _ _ _ h => h) (Or.inl ⟨by rfl, ?_⟩) hHeld ?_
    · intro w hSw
      try dsimp only at hSw
      go_simp
    try simp only [Act.put, List.getElem_toArray, List.getElem_cons_succ, List.getElem_cons_zero, List.setIfInBounds_toArray, List.set_cons_zero, List.set_cons_succ]
    refine wpAnyH_take (i := 7) (oi := _) (v := .pointer (some ⟨w.heap.size, 0, none⟩)) rfl (by kernel_rfl) (by kernel_rfl) (by kernel_rfl) (fun _ _ _ h => h) (Or.inl ⟨by rfl, ?_⟩) hHeld ?_
    · intro w hSw
      try dsimp only at hSw
      go_simp
    try simp only [Act.put, List.getElem_toArray, List.getElem_cons_succ, List.getElem_cons_zero, List.setIfInBounds_toArray, List.set_cons_zero, List.set_cons_succ]
    refine wpAnyH_take (i := 8) (oi := _) (v := .slice a zs.length c) rfl (by kernel_rfl) (by kernel_rfl) (by kernel_rfl) (fun _ _ _ h => h) (Or.inl ⟨by rfl, ?_⟩) hHeld ?_
    · intro w hSw
      try dsimp only at hSw
      go_simp
    try simp only [Act.put, List.getElem_toArray, List.getElem_cons_succ, List.getElem_cons_zero, List.setIfInBounds_toArray, List.set_cons_zero, List.set_cons_succ]
    refine wpAnyH_ready (rs := [9]) (by kernel_rfl) (by simp) ?_
    refine AllReadyH.cons rfl (fun K hK => ?_) AllReadyH.nil
    simp only [List.getElem_toArray, List.getElem_cons_succ, List.getElem_cons_zero]
    rw [if_pos (by rfl)]
    refine wps1 197 (.tmp 13) _ rfl in_l2norm (.slice a zs.length c) rfl (norm_spec _ qd hl hlen) ?_
    rintro e w3 ⟨v3, rfl, r3, k3⟩
    refine ⟨_, rfl, ?_⟩
    refine hK.out _ _ ?_ (fun hHeld => ?_)
    · exact k3.cell0 cd
    clear hK K
    try simp only [Act.put, List.getElem_toArray, List.getElem_cons_succ, List.getElem_cons_zero, List.setIfInBounds_toArray, List.set_cons_zero, List.set_cons_succ]
    have d03 := k3.cell0 (drew_cell d0)
    have d13 := k3.cell0 (drew_cell d1)
    have f03 := k3.loose0 b0 (drew_loose f0)
    have f13 := k3.loose0 b0 (drew_loose f1)
    have s3 := k3.size
    rw [unhide HZ] at r3
    obtain ⟨a3, e3, rfl⟩ := Row.form' r3
    refine wpAnyH_take (i := 10) (oi := _) (v := .agg #[.bool false, .slice a3 zz.length e3]) rfl (by kernel_rfl) (by kernel_rfl) (by kernel_rfl) (fun _ _ _ h => h) (Or.inl ⟨by rfl, ?_⟩) hHeld ?_
    · intro w hSw
      try dsimp only at hSw
      go_simp
    try simp only [Act.put, List.getElem_toArray, List.getElem_cons_succ, List.getElem_cons_zero, List.setIfInBounds_toArray, List.set_cons_zero, List.set_cons_succ]
    refine wpAnyH_ready (rs := [11]) (by kernel_rfl) (by simp) ?_
    refine AllReadyH.cons rfl (fun K hK => ?_) AllReadyH.nil
    simp only [List.getElem_toArray, List.getElem_cons_succ, List.getElem_cons_zero]
    rw [if_pos (by rfl)]
    go_simp
    refine hK.out _ _ ?_ (fun hHeld => ?_)
    · exact cell_aside _ (by simp) (cell_aside _ (by simp) (k3.cell0 cd))
    clear hK K
    try simp only [Act.put, List.getElem_toArray, List.getElem_cons_succ, List.getElem_cons_zero, List.setIfInBounds_toArray, List.set_cons_zero, List.set_cons_succ]
    refine wpAnyH_done (by kernel_rfl) ?_ _
    have R := hide (((r3.set_other (p := ⟨w.heap.size + 1, 0, none⟩) (.inl b0) (.bool false)).set_other (p := ⟨w.heap.size + 1, 1, none⟩) (.inl b0) (.slice a3 zz.length e3)).tight.wider (lo' := w.heap.size) (by have : W.drew.heap.size = W.heap.size := rfl; omega) (Nat.le_refl _))
    have K7 := hide ((((k0.drew).trans k3).setNew (p := ⟨w.heap.size + 1, 0, none⟩) (by simp) (.bool false)).setNew (p := ⟨w.heap.size + 1, 1, none⟩) (by simp) (.slice a3 zz.length e3))
    clear r3 k3 k0 q qd hHeld cd c0
    go_wp2
    exact bodyPost_ret (v := .agg #[.bool false, .slice a3 zz.length e3]) (by simp [results, Tryz.results152, go_sem, d03, d13]) rfl ⟨_, rfl, unhide R, unhide K7⟩
  · go_enter Tryz.func152, Tryz.ntmps152
    go_wp2_with fail
    generalize (w.alloc (.cells #[.slice a zs.length c] 48)).alloc (.cells #[.bool false, .slice none 0 0] 50) = W at *
    have b0 := World.block_lt_of_cell? _ _ d0
    dsimp only at b0
    have qd := q.kept ((Kept.refl 0 0 _).drew) (by omega)
    have cd : W.drew.cell? ⟨w.heap.size, 0, none⟩ = some (.slice a zs.length c) := c0
    refine wp_region_held_drew (S := fun w' => w'.cell? ⟨w.heap.size, 0, none⟩ = some (.slice a zs.length c)) (by kernel_rfl) ?_ (fun hHeld => ?_)
    · exact cd
    refine wpAnyH_take (i := 0) (oi := _) (v := .bool true) rfl (by kernel_rfl) (by kernel_rfl) (by kernel_rfl) (fun _ _ _ h => h) (Or.inl ⟨by rfl, ?_⟩) hHeld ?_
    · intro w hSw
      try dsimp only at hSw
      go_simp
    try simp only [Act.put, List.getElem_toArray, List.getElem_cons_succ, List.getElem_cons_zero, List.setIfInBounds_toArray, List.set_cons_zero, List.set_cons_succ]
    refine wpAnyH_take (i := 1) (oi := _) (v := .bool true) rfl (by kernel_rfl) (by kernel_rfl) (by kernel_rfl) (fun _ _ _ h => h) (Or.inl ⟨by rfl, ?_⟩) hHeld ?_
    · intro w hSw
      try dsimp only at hSw
      go_simp
    try simp only [Act.put, List.getElem_toArray, List.getElem_cons_succ, List.getElem_cons_zero, List.setIfInBounds_toArray, List.set_cons_zero, List.set_cons_succ]
    refine wpAnyH_take (i := 2) (oi := _) (v := .pointer (some ⟨w.heap.size, 0, none⟩)) rfl (by kernel_rfl) (by kernel_rfl) (by kernel_rfl) (fun _ _ _ h => h) (Or.inl ⟨by rfl, ?_⟩) hHeld ?_
    · intro w hSw
      try dsimp only at hSw
      go_simp
    try simp only [Act.put, List.getElem_toArray, List.getElem_cons_succ, List.getElem_cons_zero, List.setIfInBounds_toArray, List.set_cons_zero, List.set_cons_succ]
    refine wpAnyH_take (i := 3) (oi := _) (v := .slice a zs.length c) rfl (by kernel_rfl) (by kernel_rfl) (by kernel_rfl) (fun _ _ _ h => h) (Or.inl ⟨by rfl, ?_⟩) hHeld ?_
    · intro w hSw
      try dsimp only at hSw
      go_simp
    try simp only [Act.put, List.getElem_toArray, List.getElem_cons_succ, List.getElem_cons_zero, List.setIfInBounds_toArray, List.set_cons_zero, List.set_cons_succ]
    refine wpAnyH_take (i := 4) (oi := _) (v := .int .i64 zs.length) rfl (by kernel_rfl) (by kernel_rfl) (by kernel_rfl) (fun _ _ _ h => h) (Or.inl ⟨by rfl, ?_⟩) hHeld ?_
    · intro w hSw
      try dsimp only at hSw
      go_simp
    try simp only [Act.put, List.getElem_toArray, List.getElem_cons_succ, List.getElem_cons_zero, List.setIfInBounds_toArray, List.set_cons_zero, List.set_cons_succ]
    refine wpAnyH_take (i := 5) (oi := _) (v := .bool (decide (0 < zs.length))) rfl (by kernel_rfl) (by kernel_rfl) (by kernel_rfl) (fun _ _ _ h => h) (Or.inl ⟨by rfl, ?_⟩) hHeld ?_
    · intro w hSw
      try dsimp only at hSw
      go_simp
    try simp only [Act.put, List.getElem_toArray, List.getElem_cons_succ, List.getElem_cons_zero, List.setIfInBounds_toArray, List.set_cons_zero, List.set_cons_succ]
    refine wpAnyH_take (i := 6) (oi := _) (v := .bool (decide (0 < zs.length))) rfl (by kernel_rfl) (by kernel_rfl) (by kernel_rfl) (fun _ _ _ h => h) (Or.inl ⟨by rfl, ?_⟩) hHeld ?_
    · intro w hSw
      try dsimp only at hSw
      go_simp
    try simp only [Act.put, List.getElem_toArray, List.getElem_cons_succ, List.getElem_cons_zero, List.setIfInBounds_toArray, List.set_cons_zero, List.set_cons_succ]
    refine wpAnyH_take (i := 7) (oi := _) (v := .pointer (some ⟨w.heap.size, 0, none⟩)) rfl (by kernel_rfl) (by kernel_rfl) (by kernel_rfl) (fun _ _ _ h => h) (Or.inl ⟨by rfl, ?_⟩) hHeld ?_
    · intro w hSw
      try dsimp only at hSw
      go_simp
    try simp only [Act.put, List.getElem_toArray, List.getElem_cons_succ, List.getElem_cons_zero, List.setIfInBounds_toArray, List.set_cons_zero, List.set_cons_succ]
    refine wpAnyH_take (i := 8) (oi := _) (v := .slice a zs.length c) rfl (by kernel_rfl) (by kernel_rfl) (by kernel_rfl) (fun _ _ _ h => h) (Or.inl ⟨by rfl, ?_⟩) hHeld ?_
    · intro w hSw
      try dsimp only at hSw
      go_simp
    try simp only [Act.put, List.getElem_toArray, List.getElem_cons_succ, List.getElem_cons_zero, List.setIfInBounds_toArray, List.set_cons_zero, List.set_cons_succ]
    refine wpAnyH_ready (rs := [9]) (by kernel_rfl) (by simp) ?_
    refine AllReadyH.cons rfl (fun K hK => ?_) AllReadyH.nil
    simp only [List.getElem_toArray, List.getElem_cons_succ, List.getElem_cons_zero]
    rw [if_pos (by rfl)]
    refine wps1 197 (.tmp 13) _ rfl in_l2norm (.slice a zs.length c) rfl (norm_spec _ qd hl hlen) ?_
    rintro e w3 ⟨v3, rfl, r3, k3⟩
    refine ⟨_, rfl, ?_⟩
    refine hK.out _ _ ?_ (fun hHeld => ?_)
    · exact k3.cell0 cd
    clear hK K
    try simp only [Act.put, List.getElem_toArray, List.getElem_cons_succ, List.getElem_cons_zero, List.setIfInBounds_toArray, List.set_cons_zero, List.set_cons_succ]
    have d03 := k3.cell0 (drew_cell d0)
    have d13 := k3.cell0 (drew_cell d1)
    have f03 := k3.loose0 b0 (drew_loose f0)
    have f13 := k3.loose0 b0 (drew_loose f1)
    have s3 := k3.size
    rw [unhide HZ] at r3
    obtain ⟨a3, e3, rfl⟩ := Row.form' r3
    refine wpAnyH_take (i := 10) (oi := _) (v := .agg #[.bool (decide (0 < zs.length)), .slice a3 zz.length e3]) rfl (by kernel_rfl) (by kernel_rfl) (by kernel_rfl) (fun _ _ _ h => h) (Or.inl ⟨by rfl, ?_⟩) hHeld ?_
    · intro w hSw
      try dsimp only at hSw
      go_simp
    try simp only [Act.put, List.getElem_toArray, List.getElem_cons_succ, List.getElem_cons_zero, List.setIfInBounds_toArray, List.set_cons_zero, List.set_cons_succ]
    refine wpAnyH_ready (rs := [11]) (by kernel_rfl) (by simp) ?_
    refine AllReadyH.cons rfl (fun K hK => ?_) AllReadyH.nil
    simp only [List.getElem_toArray, List.getElem_cons_succ, List.getElem_cons_zero]
    rw [if_pos (by rfl)]
    go_simp
    refine hK.out _ _ ?_ (fun hHeld => ?_)
    · exact cell_aside _ (by simp) (cell_aside _ (by simp) (k3.cell0 cd))
    clear hK K
    try simp only [Act.put, List.getElem_toArray, List.getElem_cons_succ, List.getElem_cons_zero, List.setIfInBounds_toArray, List.set_cons_zero, List.set_cons_succ]
    refine wpAnyH_done (by kernel_rfl) ?_ _
    have R := hide (((r3.set_other (p := ⟨w.heap.size + 1, 0, none⟩) (.inl b0) (.bool (decide (0 < zs.length)))).set_other (p := ⟨w.heap.size + 1, 1, none⟩) (.inl b0) (.slice a3 zz.length e3)).tight.wider (lo' := w.heap.size) (by have : W.drew.heap.size = W.heap.size := rfl; omega) (Nat.le_refl _))
    have K7 := hide ((((k0.drew).trans k3).setNew (p := ⟨w.heap.size + 1, 0, none⟩) (by simp) (.bool (decide (0 < zs.length)))).setNew (p := ⟨w.heap.size + 1, 1, none⟩) (by simp) (.slice a3 zz.length e3))
    clear r3 k3 k0 q qd hHeld cd c0
    go_wp2
    exact bodyPost_ret (v := .agg #[.bool (decide (0 < zs.length)), .slice a3 zz.length e3]) (by simp [results, Tryz.results152, go_sem, d03, d13]) rfl ⟨_, rfl, unhide R, unhide K7⟩

end Go.Proofs.YthahoabkehcgbaaGreatDoor

namespace Go.Proofs.YthahoabkehcgbaaGreatDoor
open Go.RowKit
set_option linter.unusedVariables false
set_option maxRecDepth 8000

theorem cmpI_lt {a b : Int} (h : a < b) : cmpI a b = -1 := by unfold cmpI; rw [if_pos h]
theorem cmpI_gt {a b : Int} (h : b < a) : cmpI a b = 1 := by unfold cmpI; rw [if_neg (by omega), if_pos h]
theorem cmpI_eq {a b : Int} (h : a = b) : cmpI a b = 0 := by unfold cmpI; rw [if_neg (by omega), if_neg (by omega)]

set_option maxHeartbeats 2000000 in
theorem cmp_spec {b1 b2 : Bool} {l1 h1 l2 h2 : Nat} {v1 v2 : Value} {xs ys : List Int} (w : World) (r1 : Row .i64 b1 l1 h1 w v1 xs) (r2 : Row .i64 b2 l2 h2 w v2 ys) (hx : Nrm xs) (hy : Nrm ys) :
    Calls Tryz.prog 211 #[.agg #[v1], .agg #[v2]] w fun e w' => e = .returned (.int .i64 (cmpI (val xs) (val ys))) ∧ Kept 0 0 w w' := by
  have rr1 := r1
  have rr2 := r2
  obtain ⟨M, hM⟩ : ∃ M, M = xs.length := ⟨_, rfl⟩
  obtain ⟨N, hN⟩ : ∃ N, N = ys.length := ⟨_, rfl⟩
  obtain ⟨a1, c1, e1, q1, m1, q3⟩ := r1
  obtain ⟨a2, c2, e2, q2, m2, q4⟩ := r2
  rw [← hM] at e1 q1
  rw [← hN] at e2 q2
  subst e1 e2
  unfold maxLen at m1 m2
  clear q3 q4
  have HM := hide hM
  have HN := hide hN
  have k1 := (((Kept.refl 0 0 w).alloc (.cells #[.slice a1 M c1] 48)).alloc (.cells #[.slice a2 N c2] 48))
  have KK := hide k1
  by_cases hlen : M = N
  · subst hlen
    generalize hR : cmpI (val xs) (val ys) = R
    have HR := hide hR
    clear hR
    have hat1 := (row_cell (rr1.kept k1 (by omega))).2.2.2
    have hat2 := (row_cell (rr2.kept k1 (by omega))).2.2.2
    rw [← hM] at hat1
    rw [← hN] at hat2
    clear rr1 rr2 k1 hM hN
    go_enter Tryz.func211, Tryz.ntmps211
    go_wp2
    generalize hW : (w.alloc (.cells #[.slice a1 M c1] 48)).alloc (.cells #[.slice a2 M c2] 48) = W at *
    have hb1 : W.cell? ⟨w.heap.size, 0, none⟩ = some (.slice a1 M c1) := by
      rw [← hW]; exact old_cell _ (new_cell_at _ _ _ _ rfl)
    have hb2 : W.cell? ⟨w.heap.size + 1, 0, none⟩ = some (.slice a2 M c2) := by
      rw [← hW]; exact new_cell_at _ _ _ _ (by simp)
    clear hW
    go_loopw [5] (fun i wr => ∃ k n : Nat, k ≤ M ∧ i = .int .i64 ((k : Int) - 1) ∧ Hid (val (xs.drop k) = val (ys.drop k)) ∧ wr = W.drewN n) (fun i _ => (intOf i + 1).toNat)
    case atStart => exact ⟨M, 0, Nat.le_refl _, rfl, by
      have h1 := unhide HM
      have h2 := unhide HN
      show _ = _
      rw [List.drop_of_length_le (by omega), List.drop_of_length_le (by omega)], rfl⟩
    case round =>
      obtain ⟨k, n, hk, rfl, heq, rfl⟩ := hrel
      by_cases h0 : k = 0
      · subst h0
        have hR := unhide HR
        rw [cmpI_eq (by simpa using unhide heq)] at hR
        subst hR
        go_wp2
        go_ret
        exact ⟨rfl, (unhide KK).drewN n⟩
      · obtain ⟨j, rfl⟩ : ∃ j, k = j + 1 := ⟨k - 1, by omega⟩
        obtain ⟨g1, o1, rfl, x1⟩ := hat1 j (by omega)
        obtain ⟨g2, o2, rfl, x2⟩ := hat2 j (by omega)
        have e1 : ((j + 1 : Nat) : Int) - 1 = j := by omega
        rw [e1]
        have hd1 := val_drop xs j
        have hd2 := val_drop ys j
        have heq' := unhide heq
        have hlen : xs.length = ys.length := by rw [← unhide HM, ← unhide HN]
        have hlt := val_lt_of_drop hx.1 hy.1 hlen j (by have := unhide HM; omega)
        have hgt := val_lt_of_drop hy.1 hx.1 hlen.symm j (by have := unhide HN; omega)
        generalize hz1 : xs.getD j 0 = z1 at *
        generalize hz2 : ys.getD j 0 = z2 at *
        have hj1 : (j : Int) < (M : Int) := by omega
        clear hlen hat1 hat2 heq hz1 hz2
        by_cases c1 : z1 < z2
        · have hR := unhide HR
          rw [cmpI_lt (hlt (by omega))] at hR
          subst hR
          clear hd1 hd2 hlt hgt heq'
          go_wp2
          go_quiet (fail)
          go_wp2
          go_ret
          exact ⟨rfl, ((unhide KK).drewN _).drewN _⟩
        by_cases c2 : z2 < z1
        · have hR := unhide HR
          rw [cmpI_gt (hgt (by omega))] at hR
          subst hR
          clear hd1 hd2 hlt hgt heq'
          go_wp2
          go_quiet (fail)
          go_wp2
          go_quiet (fail)
          go_wp2
          go_ret
          exact ⟨rfl, (((unhide KK).drewN _).drewN _).drewN _⟩
        · have HE : Hid (val (xs.drop j) = val (ys.drop j)) := by show _ = _; omega
          clear hd1 hd2 hlt hgt heq'
          go_wp2
          go_quiet (fail)
          go_wp2
          go_quiet (fail)
          go_wp2
          go_roundw
          case rel => exact ⟨j, _, by omega, by go_num, HE, rfl⟩
          case measure => simp [intOf]
  · have hne : ((M : Int) != (N : Int)) = true := by simp; omega
    by_cases hlt : M < N
    · rw [cmpI_lt (val_lt_of_len hx.1 hy (by omega))]
      have hlt' : (M : Int) < (N : Int) := by omega
      clear rr1 rr2 k1 hM hN hlen
      go_enter Tryz.func211, Tryz.ntmps211
      go_wp2
      go_ret
      exact ⟨rfl, unhide KK⟩
    · rw [cmpI_gt (val_lt_of_len hy.1 hx (by omega))]
      have hlt' : ¬ (M : Int) < (N : Int) := by omega
      clear rr1 rr2 k1 hM hN hlen
      go_enter Tryz.func211, Tryz.ntmps211
      go_wp2
      go_ret
      exact ⟨rfl, unhide KK⟩

end Go.Proofs.YthahoabkehcgbaaGreatDoor

namespace Go.Proofs.YthahoabkehcgbaaGreatDoor
open Go.RowKit
set_option linter.unusedVariables false
set_option maxRecDepth 8000
set_option linter.unusedSimpArgs false

/-- A whole number's sign, and the limbs of its size. -/
def wsg (x : Int) : Bool := decide (x < 0)
def wlm (x : Int) : List Int := limbs x.natAbs
theorem limbs_pos (n : Nat) : decide (0 < (limbs n).length) = decide (0 < n) := by
  by_cases h : n = 0
  · subst h; rfl
  · have : limbs n ≠ [] := fun e => h (limbs_eq_nil.1 e)
    rw [decide_eq_true (List.length_pos_iff.2 this), decide_eq_true (by omega)]
theorem wlm_val (x : Int) : val (wlm x) = x.natAbs := limbs_val _
theorem wval_int (x : Int) : wval (wsg x) (wlm x) = x := by
  unfold wval; rw [wlm_val]; unfold wsg
  by_cases h : x < 0 <;> simp [h] <;> omega
theorem wlm_wval (b : Bool) {zs : List Int} (hl : Lim zs) : wlm (wval b zs) = limbs (val zs).toNat := by
  have := val_nonneg hl
  unfold wlm wval
  cases b <;> simp <;> congr 1 <;> omega
theorem wsg_wval (b : Bool) (n : Nat) : wsg (wval b (limbs n)) = (b && decide (0 < (limbs n).length)) := by
  rw [limbs_pos]
  unfold wsg wval
  rw [limbs_val]
  cases b <;> simp
/-- The model's l3make at a number that has its limbs in their one form. -/
theorem make_any {bw : Bool} {lo hi : Nat} {v : Value} {zs : List Int} (b : Bool) (w : World) (r : Row .i64 bw lo hi w v zs) (hn : Nrm zs) (hlen : zs.length ≤ 1000000) :
    Calls Tryz.prog 152 #[.bool b, .agg #[v]] w fun e w' => ∃ v', e = .returned (.agg #[.bool (wsg (wval b zs)), v']) ∧ Row .i64 true w.heap.size w'.heap.size w' v' (wlm (wval b zs)) ∧ Kept 0 0 w w' := by
  refine (make_spec b w r hn.1 hlen).mono ?_
  rintro e w' ⟨v', rfl, r', k'⟩
  refine ⟨v', ?_, by rw [wlm_wval b hn.1]; exact r', k'⟩
  have e := nrm_limbs hn
  rw [e, wsg_wval]

/-- A sign and limbs, of any length, that are told in their one way. -/
def WN (b : Bool) (zs : List Int) : Prop := Nrm zs ∧ (b = true → 0 < zs.length)
theorem wok_wn {b : Bool} {zs : List Int} (h : wokB b zs = true) : WN b zs := by
  refine ⟨(wok_int h).2.2.2, fun e => ?_⟩
  unfold wokB at h
  subst e
  simp at h
  exact List.length_pos_iff.2 (fun e => by subst e; simp at h)
theorem WN.int {b : Bool} {zs : List Int} (h : WN b zs) : b = decide (wval b zs < 0) ∧ zs = limbs (wval b zs).natAbs ∧ Nrm zs := by
  obtain ⟨h4, h2⟩ := h
  have h0 := val_nonneg h4.1
  have hl := nrm_limbs h4
  unfold wval
  cases b
  · refine ⟨?_, ?_, h4⟩
    · simp; omega
    · simp
      rw [show (val zs).natAbs = (val zs).toNat by omega]; exact hl
  · have hne : zs ≠ [] := List.length_pos_iff.1 (h2 rfl)
    have hp := nrm_pow h4 hne
    have hp0 : (0 : Int) < 65536 ^ (zs.length - 1) := Int.pow_pos (by decide)
    refine ⟨?_, ?_, h4⟩
    · simp; omega
    · simp
      rw [show (val zs).natAbs = (val zs).toNat by omega]; exact hl

set_option maxHeartbeats 1000000 in
theorem cmp3_wn {b1 b2 : Bool} {l1 h1 l2 h2 : Nat} {v1 v2 : Value} {xs ys : List Int} (s1 s2 : Bool) (w : World) (r1 : Row .i64 b1 l1 h1 w v1 xs) (r2 : Row .i64 b2 l2 h2 w v2 ys) (o1 : WN s1 xs) (o2 : WN s2 ys) :
    Calls Tryz.prog 199 #[.agg #[.bool s1, v1], .agg #[.bool s2, v2]] w fun e w' => e = .returned (.int .i64 (cmpI (wval s1 xs) (wval s2 ys))) ∧ Kept 0 0 w w' := by
  have k0 := ((Kept.refl 0 0 w).alloc (.cells #[.bool s1, v1] 50)).alloc (.cells #[.bool s2, v2] 50)
  have q1 := r1.kept k0 (by omega)
  have q2 := r2.kept k0 (by omega)
  obtain ⟨a1, c1, rfl⟩ := Row.form' r1
  obtain ⟨a2, c2, rfl⟩ := Row.form' r2
  obtain ⟨x1, x2, hx⟩ := o1.int
  obtain ⟨y1, y2, hy⟩ := o2.int
  have nx := val_nonneg hx.1
  have ny := val_nonneg hy.1
  have HK := hide k0
  clear r1 r2 k0 o1 o2 x2 y2
  cases s1 <;> cases s2
  · have e : cmpI (wval false xs) (wval false ys) = cmpI (val xs) (val ys) := by simp [wval]
    rw [e]
    clear x1 y1 e
    go_enter Tryz.func199, Tryz.ntmps199
    go_wp2_with fail
    refine (cmp_spec _ q1 q2 hx hy).mono ?_
    rintro e w6 ⟨rfl, k6⟩
    have K := hide ((unhide HK).trans k6)
    clear q1 q2 k6
    go_wp2
    go_ret
    exact ⟨rfl, unhide K⟩
  · have e : cmpI (wval false xs) (wval true ys) = 1 := by simp [wval] at y1 ⊢; unfold cmpI; rw [if_neg (by omega), if_pos (by omega)]
    rw [e]
    clear x1 y1 e q1 q2
    go_enter Tryz.func199, Tryz.ntmps199
    go_wp2
    go_ret
    exact ⟨rfl, unhide HK⟩
  · have e : cmpI (wval true xs) (wval false ys) = -1 := by simp [wval] at x1 ⊢; unfold cmpI; rw [if_pos (by omega)]
    rw [e]
    clear x1 y1 e q1 q2
    go_enter Tryz.func199, Tryz.ntmps199
    go_wp2
    go_ret
    exact ⟨rfl, unhide HK⟩
  · have e : cmpI (wval true xs) (wval true ys) = cmpI (val ys) (val xs) := by simp [wval]; unfold cmpI; split <;> split <;> (try split) <;> (try split) <;> omega
    rw [e]
    clear x1 y1 e
    go_enter Tryz.func199, Tryz.ntmps199
    go_wp2_with fail
    refine (cmp_spec _ q2 q1 hy hx).mono ?_
    rintro e w6 ⟨rfl, k6⟩
    have K := hide ((unhide HK).trans k6)
    clear q1 q2 k6
    go_wp2
    go_ret
    exact ⟨rfl, unhide K⟩

end Go.Proofs.YthahoabkehcgbaaGreatDoor

namespace Go.Proofs.YthahoabkehcgbaaGreatDoor
open Go.RowKit
set_option linter.unusedVariables false
set_option maxRecDepth 8000
set_option linter.unusedSimpArgs false

end Go.Proofs.YthahoabkehcgbaaGreatDoor

namespace Go.Proofs.YthahoabkehcgbaaGreatDoor
open Go.RowKit
set_option linter.unusedSimpArgs false

theorem and_i64 (n : Int) (k : Nat) (hk : k ≤ 62) : bits .and .i64 n ((2 ^ k - 1 : Nat) : Int) = n % ((2 ^ k : Nat) : Int) := by
  have hp : 2 ^ k ≤ 2 ^ 62 := Nat.pow_le_pow_right (by decide) hk
  have h1 : (BitVec.ofInt 64 ((2 ^ k - 1 : Nat) : Int)).toNat = 2 ^ k - 1 := by
    rw [BitVec.toNat_ofInt]
    have : (((2 ^ k - 1 : Nat) : Int) % ((2 ^ 64 : Nat) : Int)).toNat = (2 ^ k - 1) % 2 ^ 64 := by omega
    rw [this, Nat.mod_eq_of_lt (by omega)]
  have key : (BitVec.ofInt 64 n &&& BitVec.ofInt 64 ((2 ^ k - 1 : Nat) : Int)).toNat = (n % ((2 ^ 64 : Nat) : Int)).toNat % 2 ^ k := by
    rw [BitVec.toNat_and, BitVec.toNat_ofInt, h1, Nat.and_two_pow_sub_one_eq_mod]
  show IntKind.i64.wrap ((BitVec.ofInt 64 n &&& BitVec.ofInt 64 ((2 ^ k - 1 : Nat) : Int)).toNat : Nat) = _
  rw [key, IntKind.wrap_i64]
  have hm : (((n % ((2 ^ 64 : Nat) : Int)).toNat % 2 ^ k : Nat) : Int) = n % ((2 ^ k : Nat) : Int) := by
    have h0 : 0 ≤ n % ((2 ^ 64 : Nat) : Int) := Int.emod_nonneg _ (by decide)
    rw [Int.natCast_emod, Int.toNat_of_nonneg h0]
    apply Int.emod_emod_of_dvd
    exact Int.natCast_dvd_natCast.2 (Nat.pow_dvd_pow 2 (by omega))
  rw [hm]
  have h2 : 0 ≤ n % ((2 ^ k : Nat) : Int) := Int.emod_nonneg _ (by have := Nat.two_pow_pos k; omega)
  have h3 : n % ((2 ^ k : Nat) : Int) < ((2 ^ k : Nat) : Int) := Int.emod_lt_of_pos _ (by have := Nat.two_pow_pos k; omega)
  have h4 : ((2 ^ k : Nat) : Int) ≤ 4611686018427387904 := by have : (2 : Nat) ^ 62 = 4611686018427387904 := by decide
                                                              omega
  omega
/-- May the number be a rune? -/
def mayB (r : Int) : Bool := decide (0 ≤ r) && decide (r ≤ 1114111) && (decide (r < 55296) || decide (57343 < r))

/-- Numbers that are bytes. -/
def Bytes (zs : List Int) : Prop := ∀ z ∈ zs, 0 ≤ z ∧ z ≤ 255
theorem Bytes.at {zs : List Int} (h : Bytes zs) (i : Nat) : 0 ≤ zs.getD i 0 ∧ zs.getD i 0 ≤ 255 := by
  by_cases hi : i < zs.length
  · have : zs.getD i 0 = zs[i] := by simp [List.getD, hi]
    rw [this]; exact h _ (List.getElem_mem hi)
  · have : zs.getD i 0 = 0 := by simp [List.getD, List.getElem?_eq_none (Nat.le_of_not_lt hi)]
    rw [this]; omega

/-- The six bits of a byte behind the first; -1 where there is none. -/
def tl (zs : List Int) (j : Nat) : Int := if j < zs.length ∧ 128 ≤ zs.getD j 0 ∧ zs.getD j 0 ≤ 191 then zs.getD j 0 % 64 else -1
def acc (zs : List Int) (p : Nat) (r0 : Int) : Nat → Int
  | 0 => r0
  | k + 1 => acc zs p r0 k * 64 + tl zs (p + (k + 1))
/-- What is told of n bytes whose first has the bits r0: the number and n; or the bad rune and 1. -/
def fin (zs : List Int) (p n : Nat) (r0 least : Int) : Int × Int :=
  if (∀ m, m < n - 1 → 0 ≤ tl zs (p + (m + 1))) ∧ least ≤ acc zs p r0 (n - 1) ∧ mayB (acc zs p r0 (n - 1)) = true then (acc zs p r0 (n - 1), n) else (65533, 1)
end Go.Proofs.YthahoabkehcgbaaGreatDoor

namespace Go.Proofs.YthahoabkehcgbaaGreatDoor
open Go.RowKit
set_option linter.unusedVariables false
set_option maxRecDepth 8000

theorem and_one (x : Int) : bits .and .i64 x 1 = x % 2 := and_i64 x 1 (by decide)
theorem bit_limb {zs : List Int} (h : Lim zs) (q s : Nat) (hs : s < 16) : (val zs).toNat / 2 ^ (16 * q + s) % 2 = (zs.getD q 0).toNat / 2 ^ s % 2 := by
  obtain ⟨t, et⟩ : ∃ t : Nat, zs.getD q 0 = t := ⟨(zs.getD q 0).toNat, by have := h.at q; omega⟩
  by_cases hq : q < zs.length
  · have e := val_take_drop zs q (by omega)
    have e2 := val_drop zs q
    have h1 := val_lt (h.take q)
    have h2 := val_nonneg (h.take q)
    have h3 := val_nonneg (h.drop (q + 1))
    rw [List.length_take, Nat.min_eq_left (by omega)] at h1
    obtain ⟨u, eu⟩ : ∃ u : Nat, val (zs.take q) = u := ⟨(val (zs.take q)).toNat, by omega⟩
    obtain ⟨r, er⟩ : ∃ r : Nat, val (zs.drop (q + 1)) = r := ⟨(val (zs.drop (q + 1))).toNat, by omega⟩
    rw [et, er] at e2
    rw [e2, eu, pow_limb] at e
    rw [eu, pow_limb] at h1
    have h1' : u < 2 ^ (16 * q) := by omega
    have e' : (val zs).toNat = u + 2 ^ (16 * q) * (t + 65536 * r) := by
      have : val zs = ((u + 2 ^ (16 * q) * (t + 65536 * r) : Nat) : Int) := by rw [e]; simp
      rw [this]; rfl
    rw [e', et, Int.toNat_natCast, Nat.pow_add, ← Nat.div_div_eq_div_mul, Nat.add_mul_div_left _ _ (Nat.pow_pos (by decide)), Nat.div_eq_of_lt h1', Nat.zero_add]
    have e3 : 65536 * r = 2 ^ s * (2 * (2 ^ (15 - s) * r)) := by
      have : 65536 = 2 ^ s * (2 * 2 ^ (15 - s)) := by
        rw [← Nat.pow_succ', ← Nat.pow_add, show s + (15 - s).succ = 16 from by omega]
      rw [this, Nat.mul_assoc, Nat.mul_assoc]
    rw [e3, Nat.add_mul_div_left _ _ (Nat.pow_pos (by decide)), Nat.add_mul_mod_self_left]
  · have hz : zs.getD q 0 = 0 := by simp [List.getD, List.getElem?_eq_none (show zs.length ≤ q from by omega)]
    have h1 := val_lt h
    have h2 := val_nonneg h
    rw [pow_limb] at h1
    have h3 : 2 ^ (16 * zs.length) ≤ 2 ^ (16 * q + s) := Nat.pow_le_pow_right (by decide) (by omega)
    rw [hz, Nat.div_eq_of_lt (by omega)]
    simp

set_option maxHeartbeats 1000000 in
theorem bit_spec {bw : Bool} {lo hi : Nat} {v : Value} {zs : List Int} (w : World) (r : Row .i64 bw lo hi w v zs) (hl : Lim zs) (i : Int) (hi1 : i ≤ 9223372036854775807) (hi0 : -9223372036854775808 ≤ i) :
    Calls Tryz.prog 123 #[.agg #[v], .int .i64 i] w fun e w' => e = .returned (.int .i64 (if i < 0 then 0 else ((val zs).toNat / 2 ^ i.toNat % 2 : Nat))) ∧ Kept 0 0 w w' := by
  have rr := r
  obtain ⟨a, c, rfl, q1, m1, q3⟩ := r
  unfold maxLen at m1
  have hat := (row_cell (rr.kept ((Kept.refl 0 0 w).alloc (.cells #[.slice a zs.length c] 48)) (by omega))).2.2.2
  clear q3 rr
  by_cases h0 : i < 0
  · rw [if_pos h0]
    clear hat
    go_enter Tryz.func123, Tryz.ntmps123
    go_wp2
    go_ret
    exact ⟨rfl, (Kept.refl _ _ _).alloc _⟩
  · rw [if_neg h0]
    obtain ⟨q, s, hs, rfl⟩ : ∃ q s : Nat, s < 16 ∧ i = ((16 * q + s : Nat) : Int) := ⟨i.toNat / 16, i.toNat % 16, by omega, by omega⟩
    rw [Int.toNat_natCast, bit_limb hl q s hs]
    have ed : (((16 * q + s : Nat) : Int)).tdiv 16 = q := by rw [Int.tdiv_eq_ediv_of_nonneg (by omega)]; omega
    have et : (((16 * q + s : Nat) : Int)).tmod 16 = s := by rw [Int.tmod_eq_emod_of_nonneg (by omega)]; omega
    have h0' : decide ((((16 * q + s : Nat) : Int)) < 0) = false := decide_eq_false h0
    have hqr : (q : Int) ≤ 9223372036854775807 := by omega
    by_cases hq : (zs.length : Int) ≤ (q : Int)
    · have hz : zs.getD q 0 = 0 := by simp [List.getD, List.getElem?_eq_none (show zs.length ≤ q from by omega)]
      rw [hz]
      generalize hI : (((16 * q + s : Nat) : Int)) = I at *
      clear hat hI
      go_enter Tryz.func123, Tryz.ntmps123
      go_wp2
      go_ret
      exact ⟨by simp, (Kept.refl _ _ _).alloc _⟩
    · obtain ⟨g, off, rfl, hc⟩ := hat q (by omega)
      obtain ⟨t, ht⟩ : ∃ t : Nat, zs.getD q 0 = t := ⟨(zs.getD q 0).toNat, by have := hl.at q; omega⟩
      have hb := hl.at q
      rw [ht] at hc hb ⊢
      rw [Int.toNat_natCast]
      generalize hI : (((16 * q + s : Nat) : Int)) = I at *
      clear hat hI
      go_enter Tryz.func123, Tryz.ntmps123
      go_wp2
      go_ret
      exact ⟨ret_int (by rw [and_one]), (Kept.refl _ _ _).alloc _⟩

/-- So many noughts at the low end; nought has none. -/
def IsTrail (n t : Nat) : Prop := (n = 0 ∧ t = 0) ∨ (n / 2 ^ t % 2 = 1 ∧ ∀ j, j < t → n / 2 ^ j % 2 = 0)
theorem IsTrail.unique {n s t : Nat} (h1 : IsTrail n s) (h2 : IsTrail n t) : s = t := by
  rcases h1 with ⟨e1, e2⟩ | ⟨a1, a2⟩
  · rcases h2 with ⟨f1, f2⟩ | ⟨b1, b2⟩
    · omega
    · subst e1; simp at b1
  · rcases h2 with ⟨f1, f2⟩ | ⟨b1, b2⟩
    · subst f1; simp at a1
    · rcases Nat.lt_trichotomy s t with h | h | h
      · have := b2 s h; omega
      · exact h
      · have := a2 t h; omega
theorem no_bit {n m : Nat} (h : n < 2 ^ m) (hz : ∀ j, j < m → n / 2 ^ j % 2 = 0) : n = 0 := by
  rcases Nat.eq_zero_or_pos n with h0 | h0
  · exact h0
  · have hb := bitsN_half n h0
    have h1 := (bitsN_le n (bitsN n)).1 (Nat.le_refl _)
    have h2 : ¬ n < 2 ^ (bitsN n - 1) := by rw [← bitsN_le]; omega
    have h3 := (bitsN_le n m).2 h
    have h4 := hz (bitsN n - 1) (by omega)
    have h5 : n / 2 ^ (bitsN n - 1) = 1 := by
      apply Nat.div_eq_of_lt_le
      · omega
      · have : 2 ^ bitsN n = 2 ^ (bitsN n - 1) * 2 := by rw [← Nat.pow_succ]; congr 1; omega
        omega
    omega

set_option maxHeartbeats 1000000 in
theorem trail_spec {bw : Bool} {lo hi : Nat} {v : Value} {zs : List Int} (w : World) (r : Row .i64 bw lo hi w v zs) (hl : Lim zs) (hlen : zs.length ≤ 100000) :
    Calls Tryz.prog 159 #[.agg #[v]] w fun e w' => ∃ t : Nat, e = .returned (.int .i64 t) ∧ IsTrail (val zs).toNat t ∧ Kept 0 0 w w' := by
  have rr := r
  obtain ⟨M, hM⟩ : ∃ M, M = zs.length := ⟨_, rfl⟩
  obtain ⟨a, c, e1, q1, m1, q3⟩ := r
  rw [← hM] at e1 q1 hlen
  subst e1
  unfold maxLen at m1
  clear q3
  have r1 := rr.read.tight.kept ((Kept.refl 0 0 w).alloc (.cells #[.slice a M c] 48)) (by omega)
  have hb1 : (w.alloc (.cells #[.slice a M c] 48)).cell? ⟨w.heap.size, 0, none⟩ = some (.slice a M c) := new_cell_at _ _ _ _ rfl
  have k1 := (Kept.refl 0 0 w).alloc (.cells #[.slice a M c] 48)
  have HV := hide (val_lt hl)
  have HV0 := hide (val_nonneg hl)
  have HM := hide hM
  have HB := hide hb1
  have KK := hide k1
  have HR := hide r1
  clear rr hM hb1 k1 r1
  go_enter Tryz.func159, Tryz.ntmps159
  go_wp2
  generalize w.alloc (.cells #[.slice a M c] 48) = W0 at *
  go_loopw [3] (fun ii wr => ∃ i : Nat, i ≤ 16 * M ∧ ii = .int .i64 (i : Int) ∧ Hid (∀ j, j < i → (val zs).toNat / 2 ^ j % 2 = 0) ∧ Kept 0 0 W0 wr) (fun ii _ => 16 * M - (intOf ii).toNat)
  case atStart => exact ⟨0, Nat.zero_le _, rfl, fun j hj => absurd hj (Nat.not_lt_zero _), Kept.refl _ _ _⟩
  case round =>
    obtain ⟨i, hi1, rfl, hall, hk⟩ := hrel
    have hb1 : wr.cell? ⟨w.heap.size, 0, none⟩ = some (.slice a M c) := by
      rw [← unhide HB]; exact World.cell?_of_block (hk.block w.heap.size (World.block_lt_of_cell? _ _ (unhide HB)) (by omega))
    have HK := hide hk
    by_cases hlt : i < 16 * M
    · have hlt' : (i : Int) < 16 * (M : Int) := by omega
      have r2 := (unhide HR).kept hk (by omega)
      clear hk
      go_wp2_with fail
      refine (bit_spec wr r2 hl (i : Int) (by omega) (by omega)).mono ?_
      rintro e wb ⟨rfl, kb⟩
      have hb2 : wb.cell? ⟨w.heap.size, 0, none⟩ = some (.slice a M c) := by
        rw [← hb1]; exact World.cell?_of_block (kb.block w.heap.size (World.block_lt_of_cell? _ _ hb1) (by omega))
      have KB := hide ((unhide HK).trans kb)
      clear hb1 kb r2
      rw [if_neg (by omega), Int.toNat_natCast]
      have hmod : (val zs).toNat / 2 ^ i % 2 = 0 ∨ (val zs).toNat / 2 ^ i % 2 = 1 := by omega
      rcases hmod with hm | hm
      · have HMd := hide hm
        rw [hm]
        clear hm
        go_wp2
        go_roundw
        case rel => exact ⟨i + 1, by omega, by go_num, fun j hj => by
          rcases Nat.lt_succ_iff_lt_or_eq.1 hj with h | h
          · exact hall.out j h
          · subst h; exact unhide HMd, unhide KB⟩
        case measure => simp [intOf]; omega
      · have HMd := hide hm
        rw [hm]
        clear hm
        go_wp2
        go_ret
        exact ⟨i, rfl, .inr ⟨unhide HMd, fun j hj => hall.out j hj⟩, (unhide KK).trans (unhide KB)⟩
    · have hlt' : ¬ (i : Int) < 16 * (M : Int) := by omega
      have hz : (val zs).toNat = 0 := no_bit (m := 16 * M) (by
        have h1 := unhide HV
        have h2 := unhide HV0
        rw [pow_limb, ← unhide HM] at h1
        omega) (fun j hj => hall.out j (by omega))
      have HZ := hide hz
      clear hk hz
      go_wp2
      go_ret
      exact ⟨0, rfl, .inl ⟨unhide HZ, rfl⟩, (unhide KK).trans (unhide HK)⟩

end Go.Proofs.YthahoabkehcgbaaGreatDoor

