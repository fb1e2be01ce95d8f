/-
  Contracts that the proofs of this seat share: Wh1, Nat4, Wh2, Wh3, Dec, Nat10.
-/
import Derived.Test.YthahoabkehcgbaaDoorBC
import Derived.Deep.RegionHeld3
import Derived.Deep.RegionWith
import Derived.Test.YthahoabkehcgbaaDoorBA
import Derived.Deep.QuietTactic
import Derived.BigQuiet
import Derived.Test.YthahoabkehcgbaaDoorBB
import Derived.Laws.BytesArg
namespace Go.Proofs.YthahoabkehcgbaaDoor
open Go.RowKit
set_option linter.unusedVariables false
set_option maxRecDepth 8000
set_option linter.unusedSimpArgs false

/-- Is it a whole number as chapter 3 wants it? -/
def wokB (b : Bool) (zs : List Int) : Bool := okB zs && (!b || decide (0 < (zs.length : Int)))
/-- The number that a sign and limbs stand for. -/
def wval (b : Bool) (zs : List Int) : Int := if b = true then - val zs else val zs
theorem wok_int {b : Bool} {zs : List Int} (h : wokB b zs = true) : b = decide (wval b zs < 0) ∧ zs = limbs (wval b zs).natAbs ∧ zs.length ≤ 100 ∧ Nrm zs := by
  unfold wokB at h
  rw [Bool.and_eq_true] at h
  obtain ⟨h1, h2⟩ := h
  obtain ⟨h3, h4⟩ := (okB_iff zs).1 h1
  have h0 := val_nonneg h4.1
  have hl := nrm_limbs h4
  unfold wval
  cases b
  · refine ⟨?_, ?_, h3, h4⟩
    · simp; omega
    · simp
      rw [show (val zs).natAbs = (val zs).toNat by omega]; exact hl
  · simp at h2
    have hne : zs ≠ [] := by intro e; subst e; simp at h2
    have hp := nrm_pow h4 hne
    have hp0 : (0 : Int) < 65536 ^ (zs.length - 1) := Int.pow_pos (by decide)
    refine ⟨?_, ?_, h3, h4⟩
    · simp; omega
    · simp
      rw [show (val zs).natAbs = (val zs).toNat by omega]; exact hl
theorem wokB_bad {b : Bool} {zs : List Int} (h : okB zs = false) : wokB b zs = false := by unfold wokB; rw [h]; rfl

set_option maxHeartbeats 1000000 in
theorem wok_spec {bw : Bool} {lo hi : Nat} {v : Value} {zs : List Int} (b : Bool) (w : World) (r : Row .i64 bw lo hi w v zs) :
    Calls Tryd.prog 46 #[.agg #[.bool b, v]] w fun e w' => e = .returned (.bool (wokB b zs)) ∧ Kept 0 0 w w' := by
  have k0 := (Kept.refl 0 0 w).alloc (.cells #[.bool b, v] 50)
  have q := r.kept k0 (by omega)
  have c0 : (w.alloc (.cells #[.bool b, v] 50)).cell? ⟨w.heap.size, 0, none⟩ = some (.bool b) := new_cell2 _ _ _ _ _ _ rfl rfl
  have c1 : (w.alloc (.cells #[.bool b, v] 50)).cell? ⟨w.heap.size, 1, none⟩ = some v := new_cell2 _ _ _ _ _ _ rfl rfl
  obtain ⟨a, c, rfl⟩ := Row.form' r
  clear r
  go_enter Tryd.func46, Tryd.ntmps46
  go_wp2_with fail
  generalize w.alloc (.cells #[.bool b, .slice a zs.length c] 50) = W at *
  refine (ok_spec _ q).mono ?_
  rintro e w1 ⟨rfl, k1⟩
  replace c0 := k1.cell0 c0
  replace c1 := k1.cell0 c1
  have K := hide (k0.trans k1)
  clear k0 k1 q
  cases hok : okB zs
  · have HK := hide (wokB_bad (b := b) hok)
    clear hok
    go_wp2
    go_ret
    exact ⟨by rw [unhide HK]; rfl, unhide K⟩
  · have HK : Hid (wokB b zs = (!b || decide (0 < (zs.length : Int)))) := by show _ = _; unfold wokB; rw [hok]; rfl
    clear hok
    cases b
    · go_wp2
      go_ret
      exact ⟨by rw [unhide HK]; rfl, unhide K⟩
    · go_wp2
      go_ret
      exact ⟨by rw [unhide HK]; simp, unhide K⟩

set_option maxHeartbeats 1000000 in
theorem make_spec {bw : Bool} {lo hi : Nat} {v : Value} {zs : List Int} (b : Bool) (w : World) (r : Row .i64 bw lo hi w v zs) (hl : Lim zs) (hlen : zs.length ≤ 1000000) :
    Calls Tryd.prog 49 #[.bool b, .agg #[v]] w fun e w' => ∃ v', e = .returned (.agg #[.bool (b && decide (0 < zs.length)), v']) ∧ Row .i64 true w.heap.size w'.heap.size w' v' (limbs (val zs).toNat) ∧ Kept 0 0 w w' := by
  have k0 := ((Kept.refl 0 0 w).alloc (.cells #[v] 48)).alloc (.cells #[.bool false, .slice none 0 0] 50)
  have q := r.kept k0 (by omega)
  have c0 : ((w.alloc (.cells #[v] 48)).alloc (.cells #[.bool false, .slice none 0 0] 50)).cell? ⟨w.heap.size, 0, none⟩ = some v := old_cell _ (new_cell2 _ _ _ _ _ _ rfl rfl)
  have d0 : ((w.alloc (.cells #[v] 48)).alloc (.cells #[.bool false, .slice none 0 0] 50)).cell? ⟨w.heap.size + 1, 0, none⟩ = some (.bool false) := new_cell2 _ _ _ _ _ _ (by simp) rfl
  have d1 : ((w.alloc (.cells #[v] 48)).alloc (.cells #[.bool false, .slice none 0 0] 50)).cell? ⟨w.heap.size + 1, 1, none⟩ = some (.slice none 0 0) := new_cell2 _ _ _ _ _ _ (by simp) rfl
  have f0 : ((w.alloc (.cells #[v] 48)).alloc (.cells #[.bool false, .slice none 0 0] 50)).frozen? ⟨w.heap.size + 1, 0, none⟩ = false := new_loose2 _ _ _ _ _ (by simp)
  have f1 : ((w.alloc (.cells #[v] 48)).alloc (.cells #[.bool false, .slice none 0 0] 50)).frozen? ⟨w.heap.size + 1, 1, none⟩ = false := new_loose2 _ _ _ _ _ (by simp)
  obtain ⟨a, c, rfl⟩ := Row.form' r
  clear r
  obtain ⟨zz, hzz⟩ : ∃ zz, limbs (val zs).toNat = zz := ⟨_, rfl⟩
  rw [hzz]
  have HZ := hide hzz
  clear hzz
  cases b
  · go_enter Tryd.func49, Tryd.ntmps49
    go_wp2_with fail
    generalize (w.alloc (.cells #[.slice a zs.length c] 48)).alloc (.cells #[.bool false, .slice none 0 0] 50) = W at *
    have b0 := World.block_lt_of_cell? _ _ d0
    dsimp only at b0
    have qd := q.kept ((Kept.refl 0 0 _).drew) (by omega)
    have cd : W.drew.cell? ⟨w.heap.size, 0, none⟩ = some (.slice a zs.length c) := c0
    refine wp_region_held_drew (S := fun w' => w'.cell? ⟨w.heap.size, 0, none⟩ = some (.slice a zs.length c)) (by kernel_rfl) ?_ (fun hHeld => ?_)
    · exact cd
    refine wpAnyH_take (i := 0) (oi := _) (v := .bool false) rfl (by kernel_rfl) (by kernel_rfl) (by kernel_rfl) (fun _ _ _ h => h) (Or.inl ⟨by rfl, ?_⟩) hHeld ?_
    · intro w hSw
      try dsimp only at hSw
      go_simp
    try simp only [Act.put, List.getElem_toArray, List.getElem_cons_succ, List.getElem_cons_zero, List.setIfInBounds_toArray, List.set_cons_zero, List.set_cons_succ]
    refine wpAnyH_take (i := 1) (oi := _) (v := .bool false) rfl (by kernel_rfl) (by kernel_rfl) (by kernel_rfl) (fun _ _ _ h => h) (Or.inl ⟨by rfl, ?_⟩) hHeld ?_
    · intro w hSw
      try dsimp only at hSw
      go_simp
    try simp only [Act.put, List.getElem_toArray, List.getElem_cons_succ, List.getElem_cons_zero, List.setIfInBounds_toArray, List.set_cons_zero, List.set_cons_succ]
    refine wpAnyH_take (i := 2) (v := undef) rfl (by kernel_rfl) (by kernel_rfl) (by kernel_rfl) (fun _ _ _ h => h) (Or.inr ⟨by rfl, rfl⟩) hHeld ?_
    try simp only [Act.put, List.getElem_toArray, List.getElem_cons_succ, List.getElem_cons_zero, List.setIfInBounds_toArray, List.set_cons_zero, List.set_cons_succ]
    refine wpAnyH_take (i := 3) (v := undef) rfl (by kernel_rfl) (by kernel_rfl) (by kernel_rfl) (fun _ _ _ h => h) (Or.inr ⟨by rfl, rfl⟩) hHeld ?_
    try simp only [Act.put, List.getElem_toArray, List.getElem_cons_succ, List.getElem_cons_zero, List.setIfInBounds_toArray, List.set_cons_zero, List.set_cons_succ]
    refine wpAnyH_take (i := 4) (v := undef) rfl (by kernel_rfl) (by kernel_rfl) (by kernel_rfl) (fun _ _ _ h => h) (Or.inr ⟨by rfl, rfl⟩) hHeld ?_
    try simp only [Act.put, List.getElem_toArray, List.getElem_cons_succ, List.getElem_cons_zero, List.setIfInBounds_toArray, List.set_cons_zero, List.set_cons_succ]
    refine wpAnyH_take (i := 5) (v := undef) rfl (by kernel_rfl) (by kernel_rfl) (by kernel_rfl) (fun _ _ _ h => h) (Or.inr ⟨by rfl, rfl⟩) hHeld ?_
    try simp only [Act.put, List.getElem_toArray, List.getElem_cons_succ, List.getElem_cons_zero, List.setIfInBounds_toArray, List.set_cons_zero, List.set_cons_succ]
    refine wpAnyH_take (i := 6) (oi := _) (v := .bool false) rfl (by kernel_rfl) (by kernel_rfl) (by kernel_rfl) (fun _ _ _ h => h) (Or.inl ⟨by rfl, ?_⟩) hHeld ?_
    · intro w hSw
      try dsimp only at hSw
      go_simp
    try simp only [Act.put, List.getElem_toArray, List.getElem_cons_succ, List.getElem_cons_zero, List.setIfInBounds_toArray, List.set_cons_zero, List.set_cons_succ]
    refine wpAnyH_take (i := 7) (oi := _) (v := .pointer (some ⟨w.heap.size, 0, none⟩)) rfl (by kernel_rfl) (by kernel_rfl) (by kernel_rfl) (fun _ _ _ h => h) (Or.inl ⟨by rfl, ?_⟩) hHeld ?_
    · intro w hSw
      try dsimp only at hSw
      go_simp
    try simp only [Act.put, List.getElem_toArray, List.getElem_cons_succ, List.getElem_cons_zero, List.setIfInBounds_toArray, List.set_cons_zero, List.set_cons_succ]
    refine wpAnyH_take (i := 8) (oi := _) (v := .slice a zs.length c) rfl (by kernel_rfl) (by kernel_rfl) (by kernel_rfl) (fun _ _ _ h => h) (Or.inl ⟨by rfl, ?_⟩) hHeld ?_
    · intro w hSw
      try dsimp only at hSw
      go_simp
    try simp only [Act.put, List.getElem_toArray, List.getElem_cons_succ, List.getElem_cons_zero, List.setIfInBounds_toArray, List.set_cons_zero, List.set_cons_succ]
    refine wpAnyH_ready (rs := [9]) (by kernel_rfl) (by simp) ?_
    refine AllReadyH.cons rfl (fun K hK => ?_) AllReadyH.nil
    simp only [List.getElem_toArray, List.getElem_cons_succ, List.getElem_cons_zero]
    rw [if_pos (by rfl)]
    refine wps1 62 (.tmp 13) _ rfl in_l2norm (.slice a zs.length c) rfl (norm_spec _ qd hl hlen) ?_
    rintro e w3 ⟨v3, rfl, r3, k3⟩
    refine ⟨_, rfl, ?_⟩
    refine hK.out _ _ ?_ (fun hHeld => ?_)
    · exact k3.cell0 cd
    clear hK K
    try simp only [Act.put, List.getElem_toArray, List.getElem_cons_succ, List.getElem_cons_zero, List.setIfInBounds_toArray, List.set_cons_zero, List.set_cons_succ]
    have d03 := k3.cell0 (drew_cell d0)
    have d13 := k3.cell0 (drew_cell d1)
    have f03 := k3.loose0 b0 (drew_loose f0)
    have f13 := k3.loose0 b0 (drew_loose f1)
    have s3 := k3.size
    rw [unhide HZ] at r3
    obtain ⟨a3, e3, rfl⟩ := Row.form' r3
    refine wpAnyH_take (i := 10) (oi := _) (v := .agg #[.bool false, .slice a3 zz.length e3]) rfl (by kernel_rfl) (by kernel_rfl) (by kernel_rfl) (fun _ _ _ h => h) (Or.inl ⟨by rfl, ?_⟩) hHeld ?_
    · intro w hSw
      try dsimp only at hSw
      go_simp
    try simp only [Act.put, List.getElem_toArray, List.getElem_cons_succ, List.getElem_cons_zero, List.setIfInBounds_toArray, List.set_cons_zero, List.set_cons_succ]
    refine wpAnyH_ready (rs := [11]) (by kernel_rfl) (by simp) ?_
    refine AllReadyH.cons rfl (fun K hK => ?_) AllReadyH.nil
    simp only [List.getElem_toArray, List.getElem_cons_succ, List.getElem_cons_zero]
    rw [if_pos (by rfl)]
    go_simp
    refine hK.out _ _ ?_ (fun hHeld => ?_)
    · exact cell_aside _ (by simp) (cell_aside _ (by simp) (k3.cell0 cd))
    clear hK K
    try simp only [Act.put, List.getElem_toArray, List.getElem_cons_succ, List.getElem_cons_zero, List.setIfInBounds_toArray, List.set_cons_zero, List.set_cons_succ]
    refine wpAnyH_done (by kernel_rfl) ?_ _
    have R := hide (((r3.set_other (p := ⟨w.heap.size + 1, 0, none⟩) (.inl b0) (.bool false)).set_other (p := ⟨w.heap.size + 1, 1, none⟩) (.inl b0) (.slice a3 zz.length e3)).tight.wider (lo' := w.heap.size) (by have : W.drew.heap.size = W.heap.size := rfl; omega) (Nat.le_refl _))
    have K7 := hide ((((k0.drew).trans k3).setNew (p := ⟨w.heap.size + 1, 0, none⟩) (by simp) (.bool false)).setNew (p := ⟨w.heap.size + 1, 1, none⟩) (by simp) (.slice a3 zz.length e3))
    clear r3 k3 k0 q qd hHeld cd c0
    go_wp2
    exact bodyPost_ret (v := .agg #[.bool false, .slice a3 zz.length e3]) (by simp [results, Tryd.results49, go_sem, d03, d13]) rfl ⟨_, rfl, unhide R, unhide K7⟩
  · go_enter Tryd.func49, Tryd.ntmps49
    go_wp2_with fail
    generalize (w.alloc (.cells #[.slice a zs.length c] 48)).alloc (.cells #[.bool false, .slice none 0 0] 50) = W at *
    have b0 := World.block_lt_of_cell? _ _ d0
    dsimp only at b0
    have qd := q.kept ((Kept.refl 0 0 _).drew) (by omega)
    have cd : W.drew.cell? ⟨w.heap.size, 0, none⟩ = some (.slice a zs.length c) := c0
    refine wp_region_held_drew (S := fun w' => w'.cell? ⟨w.heap.size, 0, none⟩ = some (.slice a zs.length c)) (by kernel_rfl) ?_ (fun hHeld => ?_)
    · exact cd
    refine wpAnyH_take (i := 0) (oi := _) (v := .bool true) rfl (by kernel_rfl) (by kernel_rfl) (by kernel_rfl) (fun _ _ _ h => h) (Or.inl ⟨by rfl, ?_⟩) hHeld ?_
    · intro w hSw
      try dsimp only at hSw
      go_simp
    try simp only [Act.put, List.getElem_toArray, List.getElem_cons_succ, List.getElem_cons_zero, List.setIfInBounds_toArray, List.set_cons_zero, List.set_cons_succ]
    refine wpAnyH_take (i := 1) (oi := _) (v := .bool true) rfl (by kernel_rfl) (by kernel_rfl) (by kernel_rfl) (fun _ _ _ h => h) (Or.inl ⟨by rfl, ?_⟩) hHeld ?_
    · intro w hSw
      try dsimp only at hSw
      go_simp
    try simp only [Act.put, List.getElem_toArray, List.getElem_cons_succ, List.getElem_cons_zero, List.setIfInBounds_toArray, List.set_cons_zero, List.set_cons_succ]
    refine wpAnyH_take (i := 2) (oi := _) (v := .pointer (some ⟨w.heap.size, 0, none⟩)) rfl (by kernel_rfl) (by kernel_rfl) (by kernel_rfl) (fun _ _ _ h => h) (Or.inl ⟨by rfl, ?_⟩) hHeld ?_
    · intro w hSw
      try dsimp only at hSw
      go_simp
    try simp only [Act.put, List.getElem_toArray, List.getElem_cons_succ, List.getElem_cons_zero, List.setIfInBounds_toArray, List.set_cons_zero, List.set_cons_succ]
    refine wpAnyH_take (i := 3) (oi := _) (v := .slice a zs.length c) rfl (by kernel_rfl) (by kernel_rfl) (by kernel_rfl) (fun _ _ _ h => h) (Or.inl ⟨by rfl, ?_⟩) hHeld ?_
    · intro w hSw
      try dsimp only at hSw
      go_simp
    try simp only [Act.put, List.getElem_toArray, List.getElem_cons_succ, List.getElem_cons_zero, List.setIfInBounds_toArray, List.set_cons_zero, List.set_cons_succ]
    refine wpAnyH_take (i := 4) (oi := _) (v := .int .i64 zs.length) rfl (by kernel_rfl) (by kernel_rfl) (by kernel_rfl) (fun _ _ _ h => h) (Or.inl ⟨by rfl, ?_⟩) hHeld ?_
    · intro w hSw
      try dsimp only at hSw
      go_simp
    try simp only [Act.put, List.getElem_toArray, List.getElem_cons_succ, List.getElem_cons_zero, List.setIfInBounds_toArray, List.set_cons_zero, List.set_cons_succ]
    refine wpAnyH_take (i := 5) (oi := _) (v := .bool (decide (0 < zs.length))) rfl (by kernel_rfl) (by kernel_rfl) (by kernel_rfl) (fun _ _ _ h => h) (Or.inl ⟨by rfl, ?_⟩) hHeld ?_
    · intro w hSw
      try dsimp only at hSw
      go_simp
    try simp only [Act.put, List.getElem_toArray, List.getElem_cons_succ, List.getElem_cons_zero, List.setIfInBounds_toArray, List.set_cons_zero, List.set_cons_succ]
    refine wpAnyH_take (i := 6) (oi := _) (v := .bool (decide (0 < zs.length))) rfl (by kernel_rfl) (by kernel_rfl) (by kernel_rfl) (fun _ _ _ h => h) (Or.inl ⟨by rfl, ?_⟩) hHeld ?_
    · intro w hSw
      try dsimp only at hSw
      go_simp
    try simp only [Act.put, List.getElem_toArray, List.getElem_cons_succ, List.getElem_cons_zero, List.setIfInBounds_toArray, List.set_cons_zero, List.set_cons_succ]
    refine wpAnyH_take (i := 7) (oi := _) (v := .pointer (some ⟨w.heap.size, 0, none⟩)) rfl (by kernel_rfl) (by kernel_rfl) (by kernel_rfl) (fun _ _ _ h => h) (Or.inl ⟨by rfl, ?_⟩) hHeld ?_
    · intro w hSw
      try dsimp only at hSw
      go_simp
    try simp only [Act.put, List.getElem_toArray, List.getElem_cons_succ, List.getElem_cons_zero, List.setIfInBounds_toArray, List.set_cons_zero, List.set_cons_succ]
    refine wpAnyH_take (i := 8) (oi := _) (v := .slice a zs.length c) rfl (by kernel_rfl) (by kernel_rfl) (by kernel_rfl) (fun _ _ _ h => h) (Or.inl ⟨by rfl, ?_⟩) hHeld ?_
    · intro w hSw
      try dsimp only at hSw
      go_simp
    try simp only [Act.put, List.getElem_toArray, List.getElem_cons_succ, List.getElem_cons_zero, List.setIfInBounds_toArray, List.set_cons_zero, List.set_cons_succ]
    refine wpAnyH_ready (rs := [9]) (by kernel_rfl) (by simp) ?_
    refine AllReadyH.cons rfl (fun K hK => ?_) AllReadyH.nil
    simp only [List.getElem_toArray, List.getElem_cons_succ, List.getElem_cons_zero]
    rw [if_pos (by rfl)]
    refine wps1 62 (.tmp 13) _ rfl in_l2norm (.slice a zs.length c) rfl (norm_spec _ qd hl hlen) ?_
    rintro e w3 ⟨v3, rfl, r3, k3⟩
    refine ⟨_, rfl, ?_⟩
    refine hK.out _ _ ?_ (fun hHeld => ?_)
    · exact k3.cell0 cd
    clear hK K
    try simp only [Act.put, List.getElem_toArray, List.getElem_cons_succ, List.getElem_cons_zero, List.setIfInBounds_toArray, List.set_cons_zero, List.set_cons_succ]
    have d03 := k3.cell0 (drew_cell d0)
    have d13 := k3.cell0 (drew_cell d1)
    have f03 := k3.loose0 b0 (drew_loose f0)
    have f13 := k3.loose0 b0 (drew_loose f1)
    have s3 := k3.size
    rw [unhide HZ] at r3
    obtain ⟨a3, e3, rfl⟩ := Row.form' r3
    refine wpAnyH_take (i := 10) (oi := _) (v := .agg #[.bool (decide (0 < zs.length)), .slice a3 zz.length e3]) rfl (by kernel_rfl) (by kernel_rfl) (by kernel_rfl) (fun _ _ _ h => h) (Or.inl ⟨by rfl, ?_⟩) hHeld ?_
    · intro w hSw
      try dsimp only at hSw
      go_simp
    try simp only [Act.put, List.getElem_toArray, List.getElem_cons_succ, List.getElem_cons_zero, List.setIfInBounds_toArray, List.set_cons_zero, List.set_cons_succ]
    refine wpAnyH_ready (rs := [11]) (by kernel_rfl) (by simp) ?_
    refine AllReadyH.cons rfl (fun K hK => ?_) AllReadyH.nil
    simp only [List.getElem_toArray, List.getElem_cons_succ, List.getElem_cons_zero]
    rw [if_pos (by rfl)]
    go_simp
    refine hK.out _ _ ?_ (fun hHeld => ?_)
    · exact cell_aside _ (by simp) (cell_aside _ (by simp) (k3.cell0 cd))
    clear hK K
    try simp only [Act.put, List.getElem_toArray, List.getElem_cons_succ, List.getElem_cons_zero, List.setIfInBounds_toArray, List.set_cons_zero, List.set_cons_succ]
    refine wpAnyH_done (by kernel_rfl) ?_ _
    have R := hide (((r3.set_other (p := ⟨w.heap.size + 1, 0, none⟩) (.inl b0) (.bool (decide (0 < zs.length)))).set_other (p := ⟨w.heap.size + 1, 1, none⟩) (.inl b0) (.slice a3 zz.length e3)).tight.wider (lo' := w.heap.size) (by have : W.drew.heap.size = W.heap.size := rfl; omega) (Nat.le_refl _))
    have K7 := hide ((((k0.drew).trans k3).setNew (p := ⟨w.heap.size + 1, 0, none⟩) (by simp) (.bool (decide (0 < zs.length)))).setNew (p := ⟨w.heap.size + 1, 1, none⟩) (by simp) (.slice a3 zz.length e3))
    clear r3 k3 k0 q qd hHeld cd c0
    go_wp2
    exact bodyPost_ret (v := .agg #[.bool (decide (0 < zs.length)), .slice a3 zz.length e3]) (by simp [results, Tryd.results49, go_sem, d03, d13]) rfl ⟨_, rfl, unhide R, unhide K7⟩

end Go.Proofs.YthahoabkehcgbaaDoor

namespace Go.Proofs.YthahoabkehcgbaaDoor
open Go.RowKit
set_option linter.unusedVariables false
set_option maxRecDepth 8000

theorem cmpI_lt {a b : Int} (h : a < b) : cmpI a b = -1 := by unfold cmpI; rw [if_pos h]
theorem cmpI_gt {a b : Int} (h : b < a) : cmpI a b = 1 := by unfold cmpI; rw [if_neg (by omega), if_pos h]
theorem cmpI_eq {a b : Int} (h : a = b) : cmpI a b = 0 := by unfold cmpI; rw [if_neg (by omega), if_neg (by omega)]

set_option maxHeartbeats 2000000 in
theorem cmp_spec {b1 b2 : Bool} {l1 h1 l2 h2 : Nat} {v1 v2 : Value} {xs ys : List Int} (w : World) (r1 : Row .i64 b1 l1 h1 w v1 xs) (r2 : Row .i64 b2 l2 h2 w v2 ys) (hx : Nrm xs) (hy : Nrm ys) :
    Calls Tryd.prog 87 #[.agg #[v1], .agg #[v2]] w fun e w' => e = .returned (.int .i64 (cmpI (val xs) (val ys))) ∧ Kept 0 0 w w' := by
  have rr1 := r1
  have rr2 := r2
  obtain ⟨M, hM⟩ : ∃ M, M = xs.length := ⟨_, rfl⟩
  obtain ⟨N, hN⟩ : ∃ N, N = ys.length := ⟨_, rfl⟩
  obtain ⟨a1, c1, e1, q1, m1, q3⟩ := r1
  obtain ⟨a2, c2, e2, q2, m2, q4⟩ := r2
  rw [← hM] at e1 q1
  rw [← hN] at e2 q2
  subst e1 e2
  unfold maxLen at m1 m2
  clear q3 q4
  have HM := hide hM
  have HN := hide hN
  have k1 := (((Kept.refl 0 0 w).alloc (.cells #[.slice a1 M c1] 48)).alloc (.cells #[.slice a2 N c2] 48))
  have KK := hide k1
  by_cases hlen : M = N
  · subst hlen
    generalize hR : cmpI (val xs) (val ys) = R
    have HR := hide hR
    clear hR
    have hat1 := (row_cell (rr1.kept k1 (by omega))).2.2.2
    have hat2 := (row_cell (rr2.kept k1 (by omega))).2.2.2
    rw [← hM] at hat1
    rw [← hN] at hat2
    clear rr1 rr2 k1 hM hN
    go_enter Tryd.func87, Tryd.ntmps87
    go_wp2
    generalize hW : (w.alloc (.cells #[.slice a1 M c1] 48)).alloc (.cells #[.slice a2 M c2] 48) = W at *
    have hb1 : W.cell? ⟨w.heap.size, 0, none⟩ = some (.slice a1 M c1) := by
      rw [← hW]; exact old_cell _ (new_cell_at _ _ _ _ rfl)
    have hb2 : W.cell? ⟨w.heap.size + 1, 0, none⟩ = some (.slice a2 M c2) := by
      rw [← hW]; exact new_cell_at _ _ _ _ (by simp)
    clear hW
    go_loopw [5] (fun i wr => ∃ k n : Nat, k ≤ M ∧ i = .int .i64 ((k : Int) - 1) ∧ Hid (val (xs.drop k) = val (ys.drop k)) ∧ wr = W.drewN n) (fun i _ => (intOf i + 1).toNat)
    case atStart => exact ⟨M, 0, Nat.le_refl _, rfl, by
      have h1 := unhide HM
      have h2 := unhide HN
      show _ = _
      rw [List.drop_of_length_le (by omega), List.drop_of_length_le (by omega)], rfl⟩
    case round =>
      obtain ⟨k, n, hk, rfl, heq, rfl⟩ := hrel
      by_cases h0 : k = 0
      · subst h0
        have hR := unhide HR
        rw [cmpI_eq (by simpa using unhide heq)] at hR
        subst hR
        go_wp2
        go_ret
        exact ⟨rfl, (unhide KK).drewN n⟩
      · obtain ⟨j, rfl⟩ : ∃ j, k = j + 1 := ⟨k - 1, by omega⟩
        obtain ⟨g1, o1, rfl, x1⟩ := hat1 j (by omega)
        obtain ⟨g2, o2, rfl, x2⟩ := hat2 j (by omega)
        have e1 : ((j + 1 : Nat) : Int) - 1 = j := by omega
        rw [e1]
        have hd1 := val_drop xs j
        have hd2 := val_drop ys j
        have heq' := unhide heq
        have hlen : xs.length = ys.length := by rw [← unhide HM, ← unhide HN]
        have hlt := val_lt_of_drop hx.1 hy.1 hlen j (by have := unhide HM; omega)
        have hgt := val_lt_of_drop hy.1 hx.1 hlen.symm j (by have := unhide HN; omega)
        generalize hz1 : xs.getD j 0 = z1 at *
        generalize hz2 : ys.getD j 0 = z2 at *
        have hj1 : (j : Int) < (M : Int) := by omega
        clear hlen hat1 hat2 heq hz1 hz2
        by_cases c1 : z1 < z2
        · have hR := unhide HR
          rw [cmpI_lt (hlt (by omega))] at hR
          subst hR
          clear hd1 hd2 hlt hgt heq'
          go_wp2
          go_quiet (fail)
          go_wp2
          go_ret
          exact ⟨rfl, ((unhide KK).drewN _).drewN _⟩
        by_cases c2 : z2 < z1
        · have hR := unhide HR
          rw [cmpI_gt (hgt (by omega))] at hR
          subst hR
          clear hd1 hd2 hlt hgt heq'
          go_wp2
          go_quiet (fail)
          go_wp2
          go_quiet (fail)
          go_wp2
          go_ret
          exact ⟨rfl, (((unhide KK).drewN _).drewN _).drewN _⟩
        · have HE : Hid (val (xs.drop j) = val (ys.drop j)) := by show _ = _; omega
          clear hd1 hd2 hlt hgt heq'
          go_wp2
          go_quiet (fail)
          go_wp2
          go_quiet (fail)
          go_wp2
          go_roundw
          case rel => exact ⟨j, _, by omega, by go_num, HE, rfl⟩
          case measure => simp [intOf]
  · have hne : ((M : Int) != (N : Int)) = true := by simp; omega
    by_cases hlt : M < N
    · rw [cmpI_lt (val_lt_of_len hx.1 hy (by omega))]
      have hlt' : (M : Int) < (N : Int) := by omega
      clear rr1 rr2 k1 hM hN hlen
      go_enter Tryd.func87, Tryd.ntmps87
      go_wp2
      go_ret
      exact ⟨rfl, unhide KK⟩
    · rw [cmpI_gt (val_lt_of_len hy.1 hx (by omega))]
      have hlt' : ¬ (M : Int) < (N : Int) := by omega
      clear rr1 rr2 k1 hM hN hlen
      go_enter Tryd.func87, Tryd.ntmps87
      go_wp2
      go_ret
      exact ⟨rfl, unhide KK⟩

end Go.Proofs.YthahoabkehcgbaaDoor

namespace Go.Proofs.YthahoabkehcgbaaDoor
open Go.RowKit
set_option linter.unusedVariables false
set_option maxRecDepth 8000
set_option linter.unusedSimpArgs false

/-- A whole number's sign, and the limbs of its size. -/
def wsg (x : Int) : Bool := decide (x < 0)
def wlm (x : Int) : List Int := limbs x.natAbs
theorem limbs_pos (n : Nat) : decide (0 < (limbs n).length) = decide (0 < n) := by
  by_cases h : n = 0
  · subst h; rfl
  · have : limbs n ≠ [] := fun e => h (limbs_eq_nil.1 e)
    rw [decide_eq_true (List.length_pos_iff.2 this), decide_eq_true (by omega)]
theorem wlm_lim (x : Int) : Lim (wlm x) := limbs_lim _
theorem wlm_nrm (x : Int) : Nrm (wlm x) := limbs_nrm _
theorem wlm_val (x : Int) : val (wlm x) = x.natAbs := limbs_val _
theorem wval_int (x : Int) : wval (wsg x) (wlm x) = x := by
  unfold wval; rw [wlm_val]; unfold wsg
  by_cases h : x < 0 <;> simp [h] <;> omega
theorem wlm_wval (b : Bool) {zs : List Int} (hl : Lim zs) : wlm (wval b zs) = limbs (val zs).toNat := by
  have := val_nonneg hl
  unfold wlm wval
  cases b <;> simp <;> congr 1 <;> omega
theorem wsg_wval (b : Bool) (n : Nat) : wsg (wval b (limbs n)) = (b && decide (0 < (limbs n).length)) := by
  rw [limbs_pos]
  unfold wsg wval
  rw [limbs_val]
  cases b <;> simp
theorem wok_of {b : Bool} {zs : List Int} (h : wokB b zs = true) : ∃ x : Int, wval b zs = x ∧ b = wsg x ∧ zs = wlm x ∧ (wlm x).length ≤ 100 := by
  obtain ⟨h1, h2, h3, -⟩ := wok_int h
  exact ⟨_, rfl, h1, h2, by unfold wlm; rw [← h2]; exact h3⟩

theorem mul_len {xs ys : List Int} (hx : Lim xs) (hy : Lim ys) (nx : xs.length ≤ 100000) (ny : ys.length ≤ 100000) : (limbs (val xs * val ys).toNat).length ≤ 1000000 := by
  have h := (limbs_length_le (val xs * val ys).toNat (xs.length + ys.length)).2 (by
    rw [Int.toNat_of_nonneg (Int.mul_nonneg (val_nonneg hx) (val_nonneg hy))]
    exact mul_lt_pow hx hy)
  omega
theorem mul_sgn (s1 s2 : Bool) {xs ys : List Int} (hx : Lim xs) (hy : Lim ys) : wval (!(s1 == s2)) (limbs (val xs * val ys).toNat) = wval s1 xs * wval s2 ys := by
  have h3 := val_nonneg hx
  have h4 := val_nonneg hy
  unfold wval
  rw [limbs_val, Int.toNat_of_nonneg (Int.mul_nonneg h3 h4)]
  cases s1 <;> cases s2 <;> simp [Int.neg_mul, Int.mul_neg]

theorem add_len {xs ys : List Int} (hx : Lim xs) (hy : Lim ys) (nx : xs.length ≤ 100000) (ny : ys.length ≤ 100000) (n : Nat) (hn : (n : Int) ≤ val xs + val ys) : (limbs n).length ≤ 1000000 := by
  have h := (limbs_length_le n (xs.length + ys.length + 1)).2 (by
    have h1 := val_lt hx
    have h2 := val_lt hy
    have e1 := pow_mono (a := xs.length) (b := xs.length + ys.length) (by omega)
    have e2 := pow_mono (a := ys.length) (b := xs.length + ys.length) (by omega)
    rw [Int.pow_succ]
    generalize (65536 : Int) ^ (xs.length + ys.length) = P at *
    omega)
  omega
theorem len_le_of_val {xs ys : List Int} (hx : Lim xs) (hy : Nrm ys) (h : val ys ≤ val xs) : ys.length ≤ xs.length := by
  rcases Nat.lt_or_ge xs.length ys.length with h1 | h1
  · have := val_lt_of_len hx hy h1; omega
  · exact h1

/-- The model's l3make at a number that has its limbs in their one form. -/
theorem make_any {bw : Bool} {lo hi : Nat} {v : Value} {zs : List Int} (b : Bool) (w : World) (r : Row .i64 bw lo hi w v zs) (hn : Nrm zs) (hlen : zs.length ≤ 1000000) :
    Calls Tryd.prog 49 #[.bool b, .agg #[v]] w fun e w' => ∃ v', e = .returned (.agg #[.bool (wsg (wval b zs)), v']) ∧ Row .i64 true w.heap.size w'.heap.size w' v' (wlm (wval b zs)) ∧ Kept 0 0 w w' := by
  refine (make_spec b w r hn.1 hlen).mono ?_
  rintro e w' ⟨v', rfl, r', k'⟩
  refine ⟨v', ?_, by rw [wlm_wval b hn.1]; exact r', k'⟩
  have e := nrm_limbs hn
  rw [e, wsg_wval]

theorem add_sgn (s : Bool) {xs ys : List Int} (hx : Lim xs) (hy : Lim ys) : wval s (limbs (val xs + val ys).toNat) = wval s xs + wval s ys := by
  have h3 := val_nonneg hx
  have h4 := val_nonneg hy
  unfold wval
  rw [limbs_val, Int.toNat_of_nonneg (by omega)]
  cases s <;> simp <;> omega
theorem sub_sgn {s1 s2 : Bool} (h : s1 ≠ s2) {xs ys : List Int} (hle : val ys ≤ val xs) : wval s1 (limbs (val xs - val ys).toNat) = wval s1 xs + wval s2 ys := by
  unfold wval
  rw [limbs_val, Int.toNat_of_nonneg (by omega)]
  cases s1 <;> cases s2 <;> simp at h ⊢ <;> omega
theorem sub_sgn' {s1 s2 : Bool} (h : s1 ≠ s2) {xs ys : List Int} (hle : val xs ≤ val ys) : wval s2 (limbs (val ys - val xs).toNat) = wval s1 xs + wval s2 ys := by
  rw [Int.add_comm]; exact sub_sgn (fun e => h e.symm) hle

/-- A sign and limbs, of any length, that are told in their one way. -/
def WN (b : Bool) (zs : List Int) : Prop := Nrm zs ∧ (b = true → 0 < zs.length)
theorem wok_wn {b : Bool} {zs : List Int} (h : wokB b zs = true) : WN b zs := by
  refine ⟨(wok_int h).2.2.2, fun e => ?_⟩
  unfold wokB at h
  subst e
  simp at h
  exact List.length_pos_iff.2 (fun e => by subst e; simp at h)
theorem WN.int {b : Bool} {zs : List Int} (h : WN b zs) : b = decide (wval b zs < 0) ∧ zs = limbs (wval b zs).natAbs ∧ Nrm zs := by
  obtain ⟨h4, h2⟩ := h
  have h0 := val_nonneg h4.1
  have hl := nrm_limbs h4
  unfold wval
  cases b
  · refine ⟨?_, ?_, h4⟩
    · simp; omega
    · simp
      rw [show (val zs).natAbs = (val zs).toNat by omega]; exact hl
  · have hne : zs ≠ [] := List.length_pos_iff.1 (h2 rfl)
    have hp := nrm_pow h4 hne
    have hp0 : (0 : Int) < 65536 ^ (zs.length - 1) := Int.pow_pos (by decide)
    refine ⟨?_, ?_, h4⟩
    · simp; omega
    · simp
      rw [show (val zs).natAbs = (val zs).toNat by omega]; exact hl

set_option maxHeartbeats 1000000 in
theorem cmp3_wn {b1 b2 : Bool} {l1 h1 l2 h2 : Nat} {v1 v2 : Value} {xs ys : List Int} (s1 s2 : Bool) (w : World) (r1 : Row .i64 b1 l1 h1 w v1 xs) (r2 : Row .i64 b2 l2 h2 w v2 ys) (o1 : WN s1 xs) (o2 : WN s2 ys) :
    Calls Tryd.prog 76 #[.agg #[.bool s1, v1], .agg #[.bool s2, v2]] w fun e w' => e = .returned (.int .i64 (cmpI (wval s1 xs) (wval s2 ys))) ∧ Kept 0 0 w w' := by
  have k0 := ((Kept.refl 0 0 w).alloc (.cells #[.bool s1, v1] 50)).alloc (.cells #[.bool s2, v2] 50)
  have q1 := r1.kept k0 (by omega)
  have q2 := r2.kept k0 (by omega)
  obtain ⟨a1, c1, rfl⟩ := Row.form' r1
  obtain ⟨a2, c2, rfl⟩ := Row.form' r2
  obtain ⟨x1, x2, hx⟩ := o1.int
  obtain ⟨y1, y2, hy⟩ := o2.int
  have nx := val_nonneg hx.1
  have ny := val_nonneg hy.1
  have HK := hide k0
  clear r1 r2 k0 o1 o2 x2 y2
  cases s1 <;> cases s2
  · have e : cmpI (wval false xs) (wval false ys) = cmpI (val xs) (val ys) := by simp [wval]
    rw [e]
    clear x1 y1 e
    go_enter Tryd.func76, Tryd.ntmps76
    go_wp2_with fail
    refine (cmp_spec _ q1 q2 hx hy).mono ?_
    rintro e w6 ⟨rfl, k6⟩
    have K := hide ((unhide HK).trans k6)
    clear q1 q2 k6
    go_wp2
    go_ret
    exact ⟨rfl, unhide K⟩
  · have e : cmpI (wval false xs) (wval true ys) = 1 := by simp [wval] at y1 ⊢; unfold cmpI; rw [if_neg (by omega), if_pos (by omega)]
    rw [e]
    clear x1 y1 e q1 q2
    go_enter Tryd.func76, Tryd.ntmps76
    go_wp2
    go_ret
    exact ⟨rfl, unhide HK⟩
  · have e : cmpI (wval true xs) (wval false ys) = -1 := by simp [wval] at x1 ⊢; unfold cmpI; rw [if_pos (by omega)]
    rw [e]
    clear x1 y1 e q1 q2
    go_enter Tryd.func76, Tryd.ntmps76
    go_wp2
    go_ret
    exact ⟨rfl, unhide HK⟩
  · have e : cmpI (wval true xs) (wval true ys) = cmpI (val ys) (val xs) := by simp [wval]; unfold cmpI; split <;> split <;> (try split) <;> (try split) <;> omega
    rw [e]
    clear x1 y1 e
    go_enter Tryd.func76, Tryd.ntmps76
    go_wp2_with fail
    refine (cmp_spec _ q2 q1 hy hx).mono ?_
    rintro e w6 ⟨rfl, k6⟩
    have K := hide ((unhide HK).trans k6)
    clear q1 q2 k6
    go_wp2
    go_ret
    exact ⟨rfl, unhide K⟩

theorem cmp3_spec {b1 b2 : Bool} {l1 h1 l2 h2 : Nat} {v1 v2 : Value} {xs ys : List Int} (s1 s2 : Bool) (w : World) (r1 : Row .i64 b1 l1 h1 w v1 xs) (r2 : Row .i64 b2 l2 h2 w v2 ys) (o1 : wokB s1 xs = true) (o2 : wokB s2 ys = true) :
    Calls Tryd.prog 76 #[.agg #[.bool s1, v1], .agg #[.bool s2, v2]] w fun e w' => e = .returned (.int .i64 (cmpI (wval s1 xs) (wval s2 ys))) ∧ Kept 0 0 w w' := cmp3_wn s1 s2 w r1 r2 (wok_wn o1) (wok_wn o2)

theorem of_wlm (n : Int) (h : n < 0) : wval true (limbs (val (limbs (-(n + 1)).toNat) + val (limbs (1 : Int).toNat)).toNat) = n := by
  unfold wval; rw [limbs_val, limbs_val, limbs_val]; simp; omega
theorem of_wlm' (n : Int) (h : ¬ n < 0) : wval false (limbs n.toNat) = n := by
  unfold wval; rw [limbs_val]; simp; omega

end Go.Proofs.YthahoabkehcgbaaDoor

namespace Go.Proofs.YthahoabkehcgbaaDoor
open Go.RowKit
set_option linter.unusedVariables false
set_option maxRecDepth 8000
set_option linter.unusedSimpArgs false

/-- What is told: a whole number, if it is to be told and not too long. -/
def ansWB (c : Bool) (x : Int) : Bool := c && decide ((wlm x).length ≤ 100)
def ansWS (c : Bool) (x : Int) : Bool := ansWB c x && wsg x
def ansWL (c : Bool) (x : Int) : List Int := if ansWB c x = true then wlm x else []
theorem ansWB_no {c : Bool} {x : Int} (h : c = false) : ansWB c x = false := by unfold ansWB; rw [h]; rfl
theorem ansWS_no {c : Bool} {x : Int} (h : c = false) : ansWS c x = false := by unfold ansWS; rw [ansWB_no h]; rfl
theorem ansWL_no {c : Bool} {x : Int} (h : c = false) : ansWL c x = [] := by unfold ansWL; rw [ansWB_no h]; rfl
theorem ansWB_yes {c : Bool} {x : Int} (h : c = true) : ansWB c x = decide ((wlm x).length ≤ 100) := by unfold ansWB; rw [h]; rfl
theorem ansWL_len (c : Bool) (x : Int) : (ansWL c x).length ≤ 100 := by
  unfold ansWL ansWB
  split
  · rename_i h; simp at h; exact h.2
  · simp
/-- What a long whole number is told as: nought. -/
theorem ansW_told {c : Bool} {x : Int} (h : c = true) {lo hi : Nat} {w : World} {v : Value} (r : Row .i64 true lo hi w v (wlm x)) :
    ∃ v', (if (wlm x).length ≤ 100 then v else .slice none 0 0) = v' ∧ (decide ((wlm x).length ≤ 100) && wsg x) = ansWS c x ∧ decide ((wlm x).length ≤ 100) = ansWB c x ∧ Row .i64 true lo hi w v' (ansWL c x) := by
  by_cases hl : (wlm x).length ≤ 100
  · refine ⟨v, by rw [if_pos hl], by unfold ansWS; rw [ansWB_yes h], (ansWB_yes h).symm, ?_⟩
    unfold ansWL
    rw [ansWB_yes h, decide_eq_true hl, if_pos rfl]
    exact r
  · refine ⟨_, by rw [if_neg hl], by unfold ansWS; rw [ansWB_yes h], (ansWB_yes h).symm, ?_⟩
    unfold ansWL
    rw [ansWB_yes h, decide_eq_false hl, if_neg (by simp)]
    exact Row.nil _ _ _ _ _

/-- What WholeCmp tells. -/
def cmpW (s1 : Bool) (xs : List Int) (s2 : Bool) (ys : List Int) : Int := if wokB s1 xs = true ∧ wokB s2 ys = true then cmpI (wval s1 xs) (wval s2 ys) else 0
theorem cmpW_bad1 {s1 s2 : Bool} {xs ys : List Int} (h : wokB s1 xs = false) : cmpW s1 xs s2 ys = 0 := by unfold cmpW; rw [if_neg (fun e => by rw [h] at e; cases e.1)]
theorem cmpW_bad2 {s1 s2 : Bool} {xs ys : List Int} (h : wokB s2 ys = false) : cmpW s1 xs s2 ys = 0 := by unfold cmpW; rw [if_neg (fun e => by rw [h] at e; cases e.2)]
theorem cmpW_ok {s1 s2 : Bool} {xs ys : List Int} (h1 : wokB s1 xs = true) (h2 : wokB s2 ys = true) : cmpW s1 xs s2 ys = cmpI (wval s1 xs) (wval s2 ys) := by unfold cmpW; rw [if_pos ⟨h1, h2⟩]

/-- What WholeNeg tells. -/
def negW (b : Bool) (zs : List Int) : Int := if wokB b zs = true then - wval b zs else 0
theorem negW_len (b : Bool) (zs : List Int) : (wlm (negW b zs)).length ≤ 100 := by
  unfold negW
  split
  · rename_i h
    obtain ⟨-, h2, h3, h4⟩ := wok_int h
    rw [show wlm (- wval b zs) = wlm (wval b zs) from by unfold wlm; simp]
    unfold wlm
    rw [← h2]; exact h3
  · simp [wlm, limbs_zero]

end Go.Proofs.YthahoabkehcgbaaDoor

namespace Go.Proofs.YthahoabkehcgbaaDoor
open Go.RowKit
set_option linter.unusedSimpArgs false

theorem and_i64 (n : Int) (k : Nat) (hk : k ≤ 62) : bits .and .i64 n ((2 ^ k - 1 : Nat) : Int) = n % ((2 ^ k : Nat) : Int) := by
  have hp : 2 ^ k ≤ 2 ^ 62 := Nat.pow_le_pow_right (by decide) hk
  have h1 : (BitVec.ofInt 64 ((2 ^ k - 1 : Nat) : Int)).toNat = 2 ^ k - 1 := by
    rw [BitVec.toNat_ofInt]
    have : (((2 ^ k - 1 : Nat) : Int) % ((2 ^ 64 : Nat) : Int)).toNat = (2 ^ k - 1) % 2 ^ 64 := by omega
    rw [this, Nat.mod_eq_of_lt (by omega)]
  have key : (BitVec.ofInt 64 n &&& BitVec.ofInt 64 ((2 ^ k - 1 : Nat) : Int)).toNat = (n % ((2 ^ 64 : Nat) : Int)).toNat % 2 ^ k := by
    rw [BitVec.toNat_and, BitVec.toNat_ofInt, h1, Nat.and_two_pow_sub_one_eq_mod]
  show IntKind.i64.wrap ((BitVec.ofInt 64 n &&& BitVec.ofInt 64 ((2 ^ k - 1 : Nat) : Int)).toNat : Nat) = _
  rw [key, IntKind.wrap_i64]
  have hm : (((n % ((2 ^ 64 : Nat) : Int)).toNat % 2 ^ k : Nat) : Int) = n % ((2 ^ k : Nat) : Int) := by
    have h0 : 0 ≤ n % ((2 ^ 64 : Nat) : Int) := Int.emod_nonneg _ (by decide)
    rw [Int.natCast_emod, Int.toNat_of_nonneg h0]
    apply Int.emod_emod_of_dvd
    exact Int.natCast_dvd_natCast.2 (Nat.pow_dvd_pow 2 (by omega))
  rw [hm]
  have h2 : 0 ≤ n % ((2 ^ k : Nat) : Int) := Int.emod_nonneg _ (by have := Nat.two_pow_pos k; omega)
  have h3 : n % ((2 ^ k : Nat) : Int) < ((2 ^ k : Nat) : Int) := Int.emod_lt_of_pos _ (by have := Nat.two_pow_pos k; omega)
  have h4 : ((2 ^ k : Nat) : Int) ≤ 4611686018427387904 := by have : (2 : Nat) ^ 62 = 4611686018427387904 := by decide
                                                              omega
  omega
theorem and63 (n : Int) : bits .and .i64 n 63 = n % 64 := and_i64 n 6 (by decide)
theorem and31 (n : Int) : bits .and .i64 n 31 = n % 32 := and_i64 n 5 (by decide)
theorem and15 (n : Int) : bits .and .i64 n 15 = n % 16 := and_i64 n 4 (by decide)
theorem and7 (n : Int) : bits .and .i64 n 7 = n % 8 := and_i64 n 3 (by decide)
theorem and255 (n : Int) : bits .and .i64 n 255 = n % 256 := and_i64 n 8 (by decide)
theorem and30 (n : Int) : bits .and .i64 n 1073741823 = n % 1073741824 := and_i64 n 30 (by decide)

/-- May the number be a rune? -/
def mayB (r : Int) : Bool := decide (0 ≤ r) && decide (r ≤ 1114111) && (decide (r < 55296) || decide (57343 < r))

/-- Numbers that are bytes. -/
def Bytes (zs : List Int) : Prop := ∀ z ∈ zs, 0 ≤ z ∧ z ≤ 255
theorem bytes_of_wf {zs : List Int} (h : ∀ z ∈ zs, (Lit.int .u8 z).wf = true) : Bytes zs := fun z hz => by
  have := h z hz
  simp [Lit.wf, IntKind.min, IntKind.max, IntKind.signed, IntKind.bits] at this
  omega
theorem Bytes.at {zs : List Int} (h : Bytes zs) (i : Nat) : 0 ≤ zs.getD i 0 ∧ zs.getD i 0 ≤ 255 := by
  by_cases hi : i < zs.length
  · have : zs.getD i 0 = zs[i] := by simp [List.getD, hi]
    rw [this]; exact h _ (List.getElem_mem hi)
  · have : zs.getD i 0 = 0 := by simp [List.getD, List.getElem?_eq_none (Nat.le_of_not_lt hi)]
    rw [this]; omega

/-- The six bits of a byte behind the first; -1 where there is none. -/
def tl (zs : List Int) (j : Nat) : Int := if j < zs.length ∧ 128 ≤ zs.getD j 0 ∧ zs.getD j 0 ≤ 191 then zs.getD j 0 % 64 else -1
theorem tl_le (zs : List Int) (j : Nat) : tl zs j ≤ 63 ∧ -1 ≤ tl zs j := by unfold tl; split <;> omega

def acc (zs : List Int) (p : Nat) (r0 : Int) : Nat → Int
  | 0 => r0
  | k + 1 => acc zs p r0 k * 64 + tl zs (p + (k + 1))
theorem acc_bd (zs : List Int) (p : Nat) (r0 : Int) (h0 : 0 ≤ r0) (h1 : r0 ≤ 31) (k : Nat) (hk : k ≤ 3) (ht : ∀ m, m < k → 0 ≤ tl zs (p + (m + 1))) : 0 ≤ acc zs p r0 k ∧ acc zs p r0 k ≤ 8388607 := by
  have t1 := tl_le zs (p + (0 + 1)); have t2 := tl_le zs (p + (1 + 1)); have t3 := tl_le zs (p + (2 + 1))
  match k, hk, ht with
  | 0, _, _ => simp only [acc]; omega
  | 1, _, ht => have a := ht 0 (by omega); simp only [acc]; omega
  | 2, _, ht => have a := ht 0 (by omega); have b := ht 1 (by omega); simp only [acc]; omega
  | 3, _, ht => have a := ht 0 (by omega); have b := ht 1 (by omega); have c := ht 2 (by omega); simp only [acc]; omega

/-- What is told of n bytes whose first has the bits r0: the number and n; or the bad rune and 1. -/
def fin (zs : List Int) (p n : Nat) (r0 least : Int) : Int × Int :=
  if (∀ m, m < n - 1 → 0 ≤ tl zs (p + (m + 1))) ∧ least ≤ acc zs p r0 (n - 1) ∧ mayB (acc zs p r0 (n - 1)) = true then (acc zs p r0 (n - 1), n) else (65533, 1)
/-- The rune at place p, and how many bytes it has. -/
def drune (zs : List Int) (p : Nat) : Int × Int :=
  if zs.getD p 0 < 128 then (zs.getD p 0, 1)
  else if 194 ≤ zs.getD p 0 ∧ zs.getD p 0 ≤ 223 then fin zs p 2 (zs.getD p 0 % 32) 128
  else if 224 ≤ zs.getD p 0 ∧ zs.getD p 0 ≤ 239 then fin zs p 3 (zs.getD p 0 % 16) 2048
  else if 240 ≤ zs.getD p 0 ∧ zs.getD p 0 ≤ 244 then fin zs p 4 (zs.getD p 0 % 8) 65536
  else (65533, 1)

theorem fin_bad (zs : List Int) (p n : Nat) (r0 least : Int) (m : Nat) (hm : m < n - 1) (h : tl zs (p + (m + 1)) < 0) : fin zs p n r0 least = (65533, 1) := by
  unfold fin; rw [if_neg]; intro ⟨h1, _⟩; have := h1 m hm; omega
theorem fin_low (zs : List Int) (p n : Nat) (r0 least : Int) (h : acc zs p r0 (n - 1) < least) : fin zs p n r0 least = (65533, 1) := by
  unfold fin; rw [if_neg]; intro ⟨_, h1, _⟩; omega
theorem fin_not (zs : List Int) (p n : Nat) (r0 least : Int) (h : mayB (acc zs p r0 (n - 1)) = false) : fin zs p n r0 least = (65533, 1) := by
  unfold fin; rw [if_neg]; intro ⟨_, _, h1⟩; rw [h] at h1; cases h1
theorem fin_good (zs : List Int) (p n : Nat) (r0 least : Int) (h0 : ∀ m, m < n - 1 → 0 ≤ tl zs (p + (m + 1))) (h1 : least ≤ acc zs p r0 (n - 1)) (h2 : mayB (acc zs p r0 (n - 1)) = true) : fin zs p n r0 least = (acc zs p r0 (n - 1), (n : Int)) := by
  unfold fin; rw [if_pos ⟨h0, h1, h2⟩]

/-- The byte at a place of the text that the numbers are. -/
theorem str_size (zs : List Int) : (strOfNums zs).size = zs.length := by simp [strOfNums, ByteArray.size]
theorem str_at (zs : List Int) (hb : Bytes zs) (i : Nat) (hi : i < zs.length) : (((strOfNums zs).get! i).toNat : Int) = zs.getD i 0 := by
  have h := hb.at i
  have e : (strOfNums zs).get! i = UInt8.ofNat (zs.getD i 0).toNat := by
    simp [strOfNums, ByteArray.get!, hi, List.getD]
  rw [e]
  generalize zs.getD i 0 = z at h
  simp
  omega

theorem valid_may (c : Nat) : Utf8.valid (c : Int) = mayB c := by
  unfold Utf8.valid mayB
  rw [Bool.eq_iff_iff]; simp; omega

theorem all1 (P : Nat → Prop) : (∀ m, m < 1 → P m) ↔ P 0 := ⟨fun h => h 0 (by omega), fun h m hm => by have : m = 0 := by omega
                                                                                                       subst this; exact h⟩
theorem all2 (P : Nat → Prop) : (∀ m, m < 2 → P m) ↔ P 0 ∧ P 1 := ⟨fun h => ⟨h 0 (by omega), h 1 (by omega)⟩, fun h m hm => by
  rcases (by omega : m = 0 ∨ m = 1) with rfl | rfl
  · exact h.1
  · exact h.2⟩
theorem all3 (P : Nat → Prop) : (∀ m, m < 3 → P m) ↔ P 0 ∧ P 1 ∧ P 2 := ⟨fun h => ⟨h 0 (by omega), h 1 (by omega), h 2 (by omega)⟩, fun h m hm => by
  rcases (by omega : m = 0 ∨ m = 1 ∨ m = 2) with rfl | rfl | rfl
  · exact h.1
  · exact h.2.1
  · exact h.2.2⟩

theorem tl_byte (zs : List Int) (hb : Bytes zs) (j : Nat) : tl zs j = if (decide (j < (strOfNums zs).size) && ((strOfNums zs).get! j).toNat / 64 == 2) = true then ((((strOfNums zs).get! j).toNat % 64 : Nat) : Int) else -1 := by
  unfold tl
  rw [str_size]
  by_cases h : j < zs.length
  · have e := str_at zs hb j h
    generalize ((strOfNums zs).get! j).toNat = b at e
    rw [← e]
    by_cases h2 : 128 ≤ (b : Int) ∧ (b : Int) ≤ 191
    · have h3 : b / 64 = 2 := by omega
      simp [h, h2, h3]
    · have h3 : ¬ b / 64 = 2 := by omega
      simp [h, h2, h3]
  · simp [h]

theorem dec_core (b0 d1 d2 d3 : Nat) (c1 c2 c3 : Bool) (T1 T2 T3 : Int) (hT1 : T1 = if c1 = true then (d1 : Int) else -1) (hT2 : T2 = if c2 = true then (d2 : Int) else -1) (hT3 : T3 = if c3 = true then (d3 : Int) else -1)
    (x0 : b0 < 256) (m1 : d1 < 64) (m2 : d2 < 64) (m3 : d3 < 64) (D : Nat × Nat)
    (hD : D = if b0 < 128 then (b0, 1)
      else if (b0 / 32 == 6 && c1) = true then (if b0 % 32 * 64 + d1 ≥ 128 then (b0 % 32 * 64 + d1, 2) else (65533, 1))
      else if (b0 / 16 == 14 && c1 && c2) = true then (if (decide (b0 % 16 * 4096 + d1 * 64 + d2 ≥ 2048) && Utf8.valid ((b0 % 16 * 4096 + d1 * 64 + d2 : Nat) : Int)) = true then (b0 % 16 * 4096 + d1 * 64 + d2, 3) else (65533, 1))
      else if (b0 / 8 == 30 && c1 && c2 && c3) = true then (if (decide (b0 % 8 * 262144 + d1 * 4096 + d2 * 64 + d3 ≥ 65536) && Utf8.valid ((b0 % 8 * 262144 + d1 * 4096 + d2 * 64 + d3 : Nat) : Int)) = true then (b0 % 8 * 262144 + d1 * 4096 + d2 * 64 + d3, 4) else (65533, 1))
      else (65533, 1)) :
    ((D.1 : Int), (D.2 : Int)) =
      if (b0 : Int) < 128 then ((b0 : Int), 1)
      else if 194 ≤ (b0 : Int) ∧ (b0 : Int) ≤ 223 then (if 0 ≤ T1 ∧ 128 ≤ (b0 : Int) % 32 * 64 + T1 ∧ mayB ((b0 : Int) % 32 * 64 + T1) = true then ((b0 : Int) % 32 * 64 + T1, 2) else (65533, 1))
      else if 224 ≤ (b0 : Int) ∧ (b0 : Int) ≤ 239 then (if (0 ≤ T1 ∧ 0 ≤ T2) ∧ 2048 ≤ ((b0 : Int) % 16 * 64 + T1) * 64 + T2 ∧ mayB (((b0 : Int) % 16 * 64 + T1) * 64 + T2) = true then (((b0 : Int) % 16 * 64 + T1) * 64 + T2, 3) else (65533, 1))
      else if 240 ≤ (b0 : Int) ∧ (b0 : Int) ≤ 244 then (if (0 ≤ T1 ∧ 0 ≤ T2 ∧ 0 ≤ T3) ∧ 65536 ≤ (((b0 : Int) % 8 * 64 + T1) * 64 + T2) * 64 + T3 ∧ mayB ((((b0 : Int) % 8 * 64 + T1) * 64 + T2) * 64 + T3) = true then ((((b0 : Int) % 8 * 64 + T1) * 64 + T2) * 64 + T3, 4) else (65533, 1))
      else (65533, 1) := by
  subst hD
  by_cases h0 : b0 < 128
  · have h0' : (b0 : Int) < 128 := by omega
    simp [h0, h0']
  have h0' : ¬ (b0 : Int) < 128 := by omega
  by_cases h2 : b0 / 32 = 6
  · have g3 : ¬ b0 / 16 = 14 := by omega
    have g4 : ¬ b0 / 8 = 30 := by omega
    have k3 : ¬ (224 ≤ (b0 : Int) ∧ (b0 : Int) ≤ 239) := by omega
    have k4 : ¬ (240 ≤ (b0 : Int) ∧ (b0 : Int) ≤ 244) := by omega
    cases c1
    · simp at hT1
      subst hT1
      simp [h0, h0', g3, g4, k3, k4]
    · simp at hT1
      subst hT1
      have hm : mayB ((b0 : Int) % 32 * 64 + d1) = true := by simp [mayB]; omega
      by_cases h3 : b0 % 32 * 64 + d1 ≥ 128
      · have h4 : 194 ≤ (b0 : Int) ∧ (b0 : Int) ≤ 223 := by omega
        have h5 : 128 ≤ (b0 : Int) % 32 * 64 + d1 := by omega
        simp [h0, h0', h2, h3, h4, h5, hm]
      · have h4 : ¬ (194 ≤ (b0 : Int) ∧ (b0 : Int) ≤ 223) := by omega
        simp [h0, h0', h2, h3, h4, k3, k4]
  have k2 : ¬ (194 ≤ (b0 : Int) ∧ (b0 : Int) ≤ 223) := by omega
  by_cases h3 : b0 / 16 = 14
  · have g4 : ¬ b0 / 8 = 30 := by omega
    have k3 : (224 ≤ (b0 : Int) ∧ (b0 : Int) ≤ 239) := by omega
    cases c1
    · simp at hT1
      subst hT1
      simp [h0, h0', h2, g4, k2, k3]
    cases c2
    · simp at hT2
      subst hT2
      simp [h0, h0', h2, g4, k2, k3]
    simp at hT1 hT2
    subst hT1 hT2
    have v3 : ((b0 % 16 * 4096 + d1 * 64 + d2 : Nat) : Int) = ((b0 : Int) % 16 * 64 + d1) * 64 + d2 := by omega
    have hv : Utf8.valid ((b0 % 16 * 4096 + d1 * 64 + d2 : Nat) : Int) = mayB (((b0 : Int) % 16 * 64 + d1) * 64 + d2) := by rw [valid_may, v3]
    rw [hv]
    by_cases h5 : b0 % 16 * 4096 + d1 * 64 + d2 ≥ 2048
    · have h5' : 2048 ≤ ((b0 : Int) % 16 * 64 + d1) * 64 + d2 := by omega
      cases hm : mayB (((b0 : Int) % 16 * 64 + d1) * 64 + d2)
      · simp [h0, h0', h2, h3, k2, k3, hm]
      · simp [h0, h0', h2, h3, k2, k3, h5, h5', hm]
        omega
    · have h5' : ¬ 2048 ≤ ((b0 : Int) % 16 * 64 + d1) * 64 + d2 := by omega
      simp [h0, h0', h2, h3, k2, k3, h5, h5']
  have k3 : ¬ (224 ≤ (b0 : Int) ∧ (b0 : Int) ≤ 239) := by omega
  by_cases h4 : b0 / 8 = 30
  · cases c1
    · simp at hT1
      subst hT1
      simp [h0, h0', h2, h3, k2, k3]
    cases c2
    · simp at hT2
      subst hT2
      simp [h0, h0', h2, h3, k2, k3]
    cases c3
    · simp at hT3
      subst hT3
      simp [h0, h0', h2, h3, k2, k3]
    simp at hT1 hT2 hT3
    subst hT1 hT2 hT3
    have v4 : ((b0 % 8 * 262144 + d1 * 4096 + d2 * 64 + d3 : Nat) : Int) = (((b0 : Int) % 8 * 64 + d1) * 64 + d2) * 64 + d3 := by omega
    have hv : Utf8.valid ((b0 % 8 * 262144 + d1 * 4096 + d2 * 64 + d3 : Nat) : Int) = mayB ((((b0 : Int) % 8 * 64 + d1) * 64 + d2) * 64 + d3) := by rw [valid_may, v4]
    rw [hv]
    by_cases h5 : b0 % 8 * 262144 + d1 * 4096 + d2 * 64 + d3 ≥ 65536
    · have h5' : 65536 ≤ (((b0 : Int) % 8 * 64 + d1) * 64 + d2) * 64 + d3 := by omega
      cases hm : mayB ((((b0 : Int) % 8 * 64 + d1) * 64 + d2) * 64 + d3)
      · simp [h0, h0', h2, h3, h4, k2, k3, hm]
      · have k4 : (240 ≤ (b0 : Int) ∧ (b0 : Int) ≤ 244) := by simp [mayB] at hm; omega
        simp [h0, h0', h2, h3, h4, k2, k3, k4, h5, h5', hm]
        omega
    · have h5' : ¬ 65536 ≤ (((b0 : Int) % 8 * 64 + d1) * 64 + d2) * 64 + d3 := by omega
      simp [h0, h0', h2, h3, h4, k2, k3, h5, h5']
  have k4 : ¬ (240 ≤ (b0 : Int) ∧ (b0 : Int) ≤ 244) := by omega
  simp [h0, h0', h2, h3, h4, k2, k3, k4]

theorem decode_drune (zs : List Int) (hb : Bytes zs) (p : Nat) (hp : p < zs.length) : (((Utf8.decode (strOfNums zs) p).1 : Int), ((Utf8.decode (strOfNums zs) p).2 : Int)) = drune zs p := by
  have e0 := str_at zs hb p hp
  have h := dec_core ((strOfNums zs).get! p).toNat (((strOfNums zs).get! (p + 1)).toNat % 64) (((strOfNums zs).get! (p + 2)).toNat % 64) (((strOfNums zs).get! (p + 3)).toNat % 64) _ _ _ _ _ _
    (tl_byte zs hb (p + 1)) (tl_byte zs hb (p + 2)) (tl_byte zs hb (p + 3)) ((strOfNums zs).get! p).toNat_lt (Nat.mod_lt _ (by decide)) (Nat.mod_lt _ (by decide)) (Nat.mod_lt _ (by decide)) (Utf8.decode (strOfNums zs) p) rfl
  rw [h, e0]
  unfold drune fin
  simp only [show (2 - 1 : Nat) = 1 from rfl, show (3 - 1 : Nat) = 2 from rfl, show (4 - 1 : Nat) = 3 from rfl, all1, all2, all3, acc, Nat.zero_add, show (1 + 1 : Nat) = 2 from rfl, show (2 + 1 : Nat) = 3 from rfl]
  rfl

theorem tl_lt {zs : List Int} {j : Nat} (h : 0 ≤ tl zs j) : j < zs.length := by
  unfold tl at h; split at h
  · omega
  · omega
theorem fin_width (zs : List Int) (p n : Nat) (r0 least : Int) (hp : p < zs.length) (hn : 1 ≤ n) (h4 : n ≤ 4) : 1 ≤ (fin zs p n r0 least).2 ∧ p + (fin zs p n r0 least).2 ≤ zs.length ∧ (fin zs p n r0 least).2 ≤ 4 := by
  unfold fin
  split
  · rename_i h
    refine ⟨by simp; omega, ?_, by simp; omega⟩
    rcases Nat.lt_or_ge 1 n with h1 | h1
    · have := tl_lt (h.1 (n - 2) (by omega))
      simp; omega
    · simp; omega
  · refine ⟨by simp, by simp; omega, by simp⟩
theorem drune_width (zs : List Int) (p : Nat) (hp : p < zs.length) : 1 ≤ (drune zs p).2 ∧ p + (drune zs p).2 ≤ zs.length ∧ (drune zs p).2 ≤ 4 := by
  unfold drune
  repeat' split
  · exact ⟨by simp, by simp; omega, by simp⟩
  · exact fin_width _ _ _ _ _ hp (by omega) (by omega)
  · exact fin_width _ _ _ _ _ hp (by omega) (by omega)
  · exact fin_width _ _ _ _ _ hp (by omega) (by omega)
  · exact ⟨by simp, by simp; omega, by simp⟩
theorem mayB_bd {r : Int} (h : mayB r = true) : 0 ≤ r ∧ r ≤ 1114111 := by simp [mayB] at h; omega
theorem fin_bd (zs : List Int) (p n : Nat) (r0 least : Int) : mayB (fin zs p n r0 least).1 = true := by
  unfold fin
  split
  · rename_i h; exact h.2.2
  · decide
theorem drune_may (zs : List Int) (hb : Bytes zs) (p : Nat) : mayB (drune zs p).1 = true := by
  have h := hb.at p
  unfold drune
  generalize zs.getD p 0 = z at *
  repeat' split
  · simp [mayB]; omega
  · exact fin_bd _ _ _ _ _
  · exact fin_bd _ _ _ _ _
  · exact fin_bd _ _ _ _ _
  · decide

/-- Four bytes are enough to know a rune. -/
theorem piece_at (zs : List Int) (q n j : Nat) (hj : j < n) (_ : q + n ≤ zs.length) : ((zs.drop q).take n).getD j 0 = zs.getD (q + j) 0 := by
  simp [List.getD, hj]
theorem piece_length (zs : List Int) (q n : Nat) (hn : q + n ≤ zs.length) : ((zs.drop q).take n).length = n := by simp; omega
theorem piece_bytes {zs : List Int} (hb : Bytes zs) (q n : Nat) : Bytes ((zs.drop q).take n) := fun z hz => hb z (List.mem_of_mem_drop (List.mem_of_mem_take hz))
theorem piece_tl (zs : List Int) (q n j : Nat) (hn : q + n ≤ zs.length) (h4 : n = 4 ∨ q + n = zs.length) (hj : j ≤ 3) : tl ((zs.drop q).take n) j = tl zs (q + j) := by
  unfold tl
  rw [piece_length zs q n hn]
  by_cases h : j < n
  · rw [piece_at zs q n j h hn]
    have h' : q + j < zs.length := by omega
    simp [h, h']
  · have h' : ¬ q + j < zs.length := by omega
    simp [h, h']
theorem piece_drune (zs : List Int) (q n : Nat) (h1 : 1 ≤ n) (hn : q + n ≤ zs.length) (h4 : n = 4 ∨ q + n = zs.length) : drune ((zs.drop q).take n) 0 = drune zs q := by
  have t1 := piece_tl zs q n 1 hn h4 (by omega)
  have t2 := piece_tl zs q n 2 hn h4 (by omega)
  have t3 := piece_tl zs q n 3 hn h4 (by omega)
  have e0 := piece_at zs q n 0 (by omega) hn
  rw [Nat.add_zero] at e0
  unfold drune fin
  simp only [show (2 - 1 : Nat) = 1 from rfl, show (3 - 1 : Nat) = 2 from rfl, show (4 - 1 : Nat) = 3 from rfl, all1, all2, all3, acc, Nat.zero_add, show (1 + 1 : Nat) = 2 from rfl, show (2 + 1 : Nat) = 3 from rfl]
  rw [t1, t2, t3, e0]
end Go.Proofs.YthahoabkehcgbaaDoor

namespace Go.Proofs.YthahoabkehcgbaaDoor
open Go.RowKit
set_option linter.unusedVariables false
set_option maxRecDepth 8000

theorem and_one (x : Int) : bits .and .i64 x 1 = x % 2 := and_i64 x 1 (by decide)
theorem bit_limb {zs : List Int} (h : Lim zs) (q s : Nat) (hs : s < 16) : (val zs).toNat / 2 ^ (16 * q + s) % 2 = (zs.getD q 0).toNat / 2 ^ s % 2 := by
  obtain ⟨t, et⟩ : ∃ t : Nat, zs.getD q 0 = t := ⟨(zs.getD q 0).toNat, by have := h.at q; omega⟩
  by_cases hq : q < zs.length
  · have e := val_take_drop zs q (by omega)
    have e2 := val_drop zs q
    have h1 := val_lt (h.take q)
    have h2 := val_nonneg (h.take q)
    have h3 := val_nonneg (h.drop (q + 1))
    rw [List.length_take, Nat.min_eq_left (by omega)] at h1
    obtain ⟨u, eu⟩ : ∃ u : Nat, val (zs.take q) = u := ⟨(val (zs.take q)).toNat, by omega⟩
    obtain ⟨r, er⟩ : ∃ r : Nat, val (zs.drop (q + 1)) = r := ⟨(val (zs.drop (q + 1))).toNat, by omega⟩
    rw [et, er] at e2
    rw [e2, eu, pow_limb] at e
    rw [eu, pow_limb] at h1
    have h1' : u < 2 ^ (16 * q) := by omega
    have e' : (val zs).toNat = u + 2 ^ (16 * q) * (t + 65536 * r) := by
      have : val zs = ((u + 2 ^ (16 * q) * (t + 65536 * r) : Nat) : Int) := by rw [e]; simp
      rw [this]; rfl
    rw [e', et, Int.toNat_natCast, Nat.pow_add, ← Nat.div_div_eq_div_mul, Nat.add_mul_div_left _ _ (Nat.pow_pos (by decide)), Nat.div_eq_of_lt h1', Nat.zero_add]
    have e3 : 65536 * r = 2 ^ s * (2 * (2 ^ (15 - s) * r)) := by
      have : 65536 = 2 ^ s * (2 * 2 ^ (15 - s)) := by
        rw [← Nat.pow_succ', ← Nat.pow_add, show s + (15 - s).succ = 16 from by omega]
      rw [this, Nat.mul_assoc, Nat.mul_assoc]
    rw [e3, Nat.add_mul_div_left _ _ (Nat.pow_pos (by decide)), Nat.add_mul_mod_self_left]
  · have hz : zs.getD q 0 = 0 := by simp [List.getD, List.getElem?_eq_none (show zs.length ≤ q from by omega)]
    have h1 := val_lt h
    have h2 := val_nonneg h
    rw [pow_limb] at h1
    have h3 : 2 ^ (16 * zs.length) ≤ 2 ^ (16 * q + s) := Nat.pow_le_pow_right (by decide) (by omega)
    rw [hz, Nat.div_eq_of_lt (by omega)]
    simp

set_option maxHeartbeats 1000000 in
theorem bit_spec {bw : Bool} {lo hi : Nat} {v : Value} {zs : List Int} (w : World) (r : Row .i64 bw lo hi w v zs) (hl : Lim zs) (i : Int) (hi1 : i ≤ 9223372036854775807) (hi0 : -9223372036854775808 ≤ i) :
    Calls Tryd.prog 47 #[.agg #[v], .int .i64 i] w fun e w' => e = .returned (.int .i64 (if i < 0 then 0 else ((val zs).toNat / 2 ^ i.toNat % 2 : Nat))) ∧ Kept 0 0 w w' := by
  have rr := r
  obtain ⟨a, c, rfl, q1, m1, q3⟩ := r
  unfold maxLen at m1
  have hat := (row_cell (rr.kept ((Kept.refl 0 0 w).alloc (.cells #[.slice a zs.length c] 48)) (by omega))).2.2.2
  clear q3 rr
  by_cases h0 : i < 0
  · rw [if_pos h0]
    clear hat
    go_enter Tryd.func47, Tryd.ntmps47
    go_wp2
    go_ret
    exact ⟨rfl, (Kept.refl _ _ _).alloc _⟩
  · rw [if_neg h0]
    obtain ⟨q, s, hs, rfl⟩ : ∃ q s : Nat, s < 16 ∧ i = ((16 * q + s : Nat) : Int) := ⟨i.toNat / 16, i.toNat % 16, by omega, by omega⟩
    rw [Int.toNat_natCast, bit_limb hl q s hs]
    have ed : (((16 * q + s : Nat) : Int)).tdiv 16 = q := by rw [Int.tdiv_eq_ediv_of_nonneg (by omega)]; omega
    have et : (((16 * q + s : Nat) : Int)).tmod 16 = s := by rw [Int.tmod_eq_emod_of_nonneg (by omega)]; omega
    have h0' : decide ((((16 * q + s : Nat) : Int)) < 0) = false := decide_eq_false h0
    have hqr : (q : Int) ≤ 9223372036854775807 := by omega
    by_cases hq : (zs.length : Int) ≤ (q : Int)
    · have hz : zs.getD q 0 = 0 := by simp [List.getD, List.getElem?_eq_none (show zs.length ≤ q from by omega)]
      rw [hz]
      generalize hI : (((16 * q + s : Nat) : Int)) = I at *
      clear hat hI
      go_enter Tryd.func47, Tryd.ntmps47
      go_wp2
      go_ret
      exact ⟨by simp, (Kept.refl _ _ _).alloc _⟩
    · obtain ⟨g, off, rfl, hc⟩ := hat q (by omega)
      obtain ⟨t, ht⟩ : ∃ t : Nat, zs.getD q 0 = t := ⟨(zs.getD q 0).toNat, by have := hl.at q; omega⟩
      have hb := hl.at q
      rw [ht] at hc hb ⊢
      rw [Int.toNat_natCast]
      generalize hI : (((16 * q + s : Nat) : Int)) = I at *
      clear hat hI
      go_enter Tryd.func47, Tryd.ntmps47
      go_wp2
      go_ret
      exact ⟨ret_int (by rw [and_one]), (Kept.refl _ _ _).alloc _⟩

/-- So many noughts at the low end; nought has none. -/
def IsTrail (n t : Nat) : Prop := (n = 0 ∧ t = 0) ∨ (n / 2 ^ t % 2 = 1 ∧ ∀ j, j < t → n / 2 ^ j % 2 = 0)
theorem IsTrail.unique {n s t : Nat} (h1 : IsTrail n s) (h2 : IsTrail n t) : s = t := by
  rcases h1 with ⟨e1, e2⟩ | ⟨a1, a2⟩
  · rcases h2 with ⟨f1, f2⟩ | ⟨b1, b2⟩
    · omega
    · subst e1; simp at b1
  · rcases h2 with ⟨f1, f2⟩ | ⟨b1, b2⟩
    · subst f1; simp at a1
    · rcases Nat.lt_trichotomy s t with h | h | h
      · have := b2 s h; omega
      · exact h
      · have := a2 t h; omega
theorem no_bit {n m : Nat} (h : n < 2 ^ m) (hz : ∀ j, j < m → n / 2 ^ j % 2 = 0) : n = 0 := by
  rcases Nat.eq_zero_or_pos n with h0 | h0
  · exact h0
  · have hb := bitsN_half n h0
    have h1 := (bitsN_le n (bitsN n)).1 (Nat.le_refl _)
    have h2 : ¬ n < 2 ^ (bitsN n - 1) := by rw [← bitsN_le]; omega
    have h3 := (bitsN_le n m).2 h
    have h4 := hz (bitsN n - 1) (by omega)
    have h5 : n / 2 ^ (bitsN n - 1) = 1 := by
      apply Nat.div_eq_of_lt_le
      · omega
      · have : 2 ^ bitsN n = 2 ^ (bitsN n - 1) * 2 := by rw [← Nat.pow_succ]; congr 1; omega
        omega
    omega

end Go.Proofs.YthahoabkehcgbaaDoor
