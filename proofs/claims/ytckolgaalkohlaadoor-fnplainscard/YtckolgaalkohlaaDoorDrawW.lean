/-
  The draws of whole and of dyadic numbers: they return, whatever is drawn.
-/
import Derived.Test.YtckolgaalkohlaaDoorDrawN5
import Derived.Test.YtckolgaalkohlaaDoorBE
import Derived.Test.YtckolgaalkohlaaDoorBC
import Derived.Test.YtckolgaalkohlaaDoorLawW
import Derived.Deep.RegionHeld3
namespace Go.Proofs.YtckolgaalkohlaaDoor
open Go.RowKit
set_option linter.unusedVariables false
set_option maxRecDepth 8000
set_option linter.unusedSimpArgs false

/-- What a draw of a whole number leaves: some sign, some limbs of the call's own. -/
def DrawnW (g lo : Nat) (w w' : World) (v : Value) : Prop := ∃ zs : List Int, Row .i64 true w.heap.size w'.heap.size w' v zs ∧ Drawn g lo w w'
theorem Drawn.set {g lo : Nat} {a w : World} (h : Drawn g lo a w) {p : Addr} (hg : g < p.block) (hp : a.heap.size ≤ p.block) (u : Value) : Drawn g lo a (w.setCell p u) := ⟨h.1.setFar hg u, h.2.setNew hp u⟩
theorem Drawn.alloc {g lo : Nat} {a w : World} (h : Drawn g lo a w) (ob : Obj) : Drawn g lo a (w.alloc ob) := h.keptR ((Kept.refl 0 0 w).alloc ob)
theorem Drawn.start {g lo : Nat} {w : World} (c : Cur g lo w) (ob : Obj) : Drawn g lo w (w.alloc ob) := ⟨c.kept ((Kept.refl 0 0 w).alloc ob) (by omega), ((Kept.refl 0 0 w).alloc ob).any⟩

set_option maxHeartbeats 4000000 in
theorem draw3_any (g lo : Nat) (w : World) (c : Cur g lo w) :
    Calls Tryd.prog 19 #[.pointer (some ⟨g, 0, none⟩)] w fun e w' => ∃ v s zs, e = .returned (.agg #[.bool s, v]) ∧ Row .i64 true w.heap.size w'.heap.size w' v zs ∧ WN s zs ∧ zs.length ≤ 100 ∧ Drawn g lo w w' := by
  have hg := c.1
  have D := Drawn.start c (.cells #[.bool false, .slice none 0 0] 28)
  have q0 : (w.alloc (.cells #[.bool false, .slice none 0 0] 28)).cell? ⟨w.heap.size, 0, none⟩ = some (.bool false) := new_cell2 _ _ _ _ _ _ rfl rfl
  have qf0 : (w.alloc (.cells #[.bool false, .slice none 0 0] 28)).frozen? ⟨w.heap.size, 0, none⟩ = false := new_loose2 _ _ _ _ _ rfl
  have q1 : (w.alloc (.cells #[.bool false, .slice none 0 0] 28)).cell? ⟨w.heap.size, 1, none⟩ = some (.slice none 0 0) := new_cell2 _ _ _ _ _ _ rfl rfl
  have qf1 : (w.alloc (.cells #[.bool false, .slice none 0 0] 28)).frozen? ⟨w.heap.size, 1, none⟩ = false := new_loose2 _ _ _ _ _ rfl
  have s0 : w.heap.size < (w.alloc (.cells #[.bool false, .slice none 0 0] 28)).heap.size := by simp
  clear c
  go_enter Tryd.func19, Tryd.ntmps19
  go_wp2_with fail
  generalize w.alloc (.cells #[.bool false, .slice none 0 0] 28) = W at *
  go_wp2_with fail
  refine (l1Once_any g lo _ D.1 2).mono ?_
  rintro e w1 ⟨b, rfl, hd⟩
  have kk := hd.kept
  replace D := D.trans hd.drawn
  replace qf0 := Kept.looseOut' kk (by dsimp only; omega) (World.block_lt_of_cell? _ _ q0) qf0
  replace qf1 := Kept.looseOut' kk (by dsimp only; omega) (World.block_lt_of_cell? _ _ q1) qf1
  replace q0 := Kept.cellOut kk (by dsimp only; omega) q0
  replace q1 := Kept.cellOut kk (by dsimp only; omega) q1
  have z2 := kk.size
  clear kk hd
  go_wp2_with fail
  refine (draw_any g lo _ D.1).mono ?_
  rintro e w3 ⟨v5, rfl, zs, own, hn, hl, hd⟩
  have kk := hd.2
  replace D := D.trans hd
  replace qf0 := Kept.looseOut' kk (by dsimp only; omega) (World.block_lt_of_cell? _ _ q0) qf0
  replace qf1 := Kept.looseOut' kk (by dsimp only; omega) (World.block_lt_of_cell? _ _ q1) qf1
  replace q0 := Kept.cellOut kk (by dsimp only; omega) q0
  replace q1 := Kept.cellOut kk (by dsimp only; omega) q1
  have z4 := kk.size
  clear kk hd
  have r5 := Row.own own
  clear own
  go_wp2_with fail
  refine (make_spec b _ r5 hn.1 (by omega)).mono ?_
  rintro e w5 ⟨v6, rfl, r6, kk⟩
  replace D := D.keptR kk
  replace r5 := r5.kept kk (by omega)
  replace qf0 := Kept.looseOut' kk (by dsimp only; omega) (World.block_lt_of_cell? _ _ q0) qf0
  replace qf1 := Kept.looseOut' kk (by dsimp only; omega) (World.block_lt_of_cell? _ _ q1) qf1
  replace q0 := Kept.cellOut kk (by dsimp only; omega) q0
  replace q1 := Kept.cellOut kk (by dsimp only; omega) q1
  have z6 := kk.size
  clear kk
  clear r5
  obtain ⟨zz, hzz⟩ : ∃ y, limbs (val zs).toNat = y := ⟨_, rfl⟩
  have hln : zz.length ≤ 100 := by rw [← hzz, ← nrm_limbs hn]; exact hl
  have wn : WN (b && decide (0 < zs.length)) zz := by rw [← hzz, ← nrm_limbs hn]; exact ⟨hn, fun h => by simp at h; exact List.length_pos_iff.2 (fun e => by simp [e] at h)⟩
  have WNN := hide wn
  rw [hzz] at r6
  clear hzz wn
  generalize (b && decide (0 < zs.length)) = sb at *
  obtain ⟨a6, c6, hv⟩ := Row.form' r6
  subst hv
  have R := hide (((r6.set_other (p := ⟨w.heap.size, 0, none⟩) (.inl (by dsimp only; omega)) (.bool sb)).set_other (p := ⟨w.heap.size, 1, none⟩) (.inl (by dsimp only; omega)) (.slice a6 zz.length c6)).tight.wider (lo' := w.heap.size) (by omega) (Nat.le_refl _))
  have DD := hide ((D.set (p := ⟨w.heap.size, 0, none⟩) hg (Nat.le_refl _) (.bool sb)).set (p := ⟨w.heap.size, 1, none⟩) hg (Nat.le_refl _) (.slice a6 zz.length c6))
  clear r6 D 
  go_wp2_with fail
  exact bodyPost_ret (v := .agg #[.bool sb, .slice a6 zz.length c6]) (by simp [results, Tryd.results19, go_sem, q0, q1]) rfl ⟨_, _, _, rfl, unhide R, unhide WNN, hln, unhide DD⟩

theorem four_set {w4 : World} {p : Nat} {x0 x1 y0 y1 : Value} (u0 u1 z0 z1 : Value) (q0 : w4.cell? ⟨p, 0, none⟩ = some x0) (q1 : w4.cell? ⟨p, 1, none⟩ = some x1) (t0 : w4.cell? ⟨p + 1, 0, none⟩ = some y0) (t1 : w4.cell? ⟨p + 1, 1, none⟩ = some y1) :
    (((((w4.setCell ⟨p, 0, none⟩ u0).setCell ⟨p, 1, none⟩ u1).setCell ⟨p + 1, 0, none⟩ z0).setCell ⟨p + 1, 1, none⟩ z1)).cell? ⟨p, 0, none⟩ = some u0 ∧ (((((w4.setCell ⟨p, 0, none⟩ u0).setCell ⟨p, 1, none⟩ u1).setCell ⟨p + 1, 0, none⟩ z0).setCell ⟨p + 1, 1, none⟩ z1)).cell? ⟨p, 1, none⟩ = some u1 ∧ (((((w4.setCell ⟨p, 0, none⟩ u0).setCell ⟨p, 1, none⟩ u1).setCell ⟨p + 1, 0, none⟩ z0).setCell ⟨p + 1, 1, none⟩ z1)).cell? ⟨p + 1, 0, none⟩ = some z0 ∧ (((((w4.setCell ⟨p, 0, none⟩ u0).setCell ⟨p, 1, none⟩ u1).setCell ⟨p + 1, 0, none⟩ z0).setCell ⟨p + 1, 1, none⟩ z1)).cell? ⟨p + 1, 1, none⟩ = some z1 ∧ Kept p (p + 2) w4 (((((w4.setCell ⟨p, 0, none⟩ u0).setCell ⟨p, 1, none⟩ u1).setCell ⟨p + 1, 0, none⟩ z0).setCell ⟨p + 1, 1, none⟩ z1)) ∧ (((((w4.setCell ⟨p, 0, none⟩ u0).setCell ⟨p, 1, none⟩ u1).setCell ⟨p + 1, 0, none⟩ z0).setCell ⟨p + 1, 1, none⟩ z1)).heap.size = w4.heap.size := by
  have Q0 := cell_off _ _ _ 1 u1 _ (cell_on _ _ _ u0 _ q0) (show (0 : Nat) ≠ 1 by omega)
  have Q1 := cell_on _ _ _ u1 _ (cell_off _ _ _ 0 u0 _ q1 (show (1 : Nat) ≠ 0 by omega))
  have T0 : ((w4.setCell ⟨p, 0, none⟩ u0).setCell ⟨p, 1, none⟩ u1).cell? ⟨p + 1, 0, none⟩ = some y0 := cell_aside _ (by dsimp only; omega) (cell_aside _ (by dsimp only; omega) t0)
  have T1 : ((w4.setCell ⟨p, 0, none⟩ u0).setCell ⟨p, 1, none⟩ u1).cell? ⟨p + 1, 1, none⟩ = some y1 := cell_aside _ (by dsimp only; omega) (cell_aside _ (by dsimp only; omega) t1)
  refine ⟨cell_aside _ (by dsimp only; omega) (cell_aside _ (by dsimp only; omega) Q0), cell_aside _ (by dsimp only; omega) (cell_aside _ (by dsimp only; omega) Q1), cell_off _ _ _ 1 z1 _ (cell_on _ _ _ z0 _ T0) (show (0 : Nat) ≠ 1 by omega), cell_on _ _ _ z1 _ (cell_off _ _ _ 0 z0 _ T1 (show (1 : Nat) ≠ 0 by omega)), ?_, by rw [size_set, size_set, size_set, size_set]⟩
  exact ((((Kept.refl _ _ _).setCell (p := ⟨p, 0, none⟩) (by dsimp only; omega) (by dsimp only; omega) _).setCell (p := ⟨p, 1, none⟩) (by dsimp only; omega) (by dsimp only; omega) _).setCell (p := ⟨p + 1, 0, none⟩) (by dsimp only; omega) (by dsimp only; omega) _).setCell (p := ⟨p + 1, 1, none⟩) (by dsimp only; omega) (by dsimp only; omega) _

set_option maxHeartbeats 1000000 in
theorem make_free {bw : Bool} {lo hi : Nat} {v : Value} {zs : List Int} (b : Bool) (w : World) (r : Row .i64 bw lo hi w v zs) (hlen : zs.length ≤ 1000000) :
    Calls Tryd.prog 31 #[.bool b, .agg #[v]] w fun e w' => ∃ v' ys, e = .returned (.agg #[.bool (b && decide (0 < zs.length)), v']) ∧ Row .i64 true w.heap.size w'.heap.size w' v' ys ∧ ys.length ≤ zs.length ∧ Kept 0 0 w w' := by
  have k0 := ((Kept.refl 0 0 w).alloc (.cells #[v] 26)).alloc (.cells #[.bool false, .slice none 0 0] 28)
  have q := r.kept k0 (by omega)
  have c0 : ((w.alloc (.cells #[v] 26)).alloc (.cells #[.bool false, .slice none 0 0] 28)).cell? ⟨w.heap.size, 0, none⟩ = some v := old_cell _ (new_cell2 _ _ _ _ _ _ rfl rfl)
  have d0 : ((w.alloc (.cells #[v] 26)).alloc (.cells #[.bool false, .slice none 0 0] 28)).cell? ⟨w.heap.size + 1, 0, none⟩ = some (.bool false) := new_cell2 _ _ _ _ _ _ (by simp) rfl
  have d1 : ((w.alloc (.cells #[v] 26)).alloc (.cells #[.bool false, .slice none 0 0] 28)).cell? ⟨w.heap.size + 1, 1, none⟩ = some (.slice none 0 0) := new_cell2 _ _ _ _ _ _ (by simp) rfl
  have f0 : ((w.alloc (.cells #[v] 26)).alloc (.cells #[.bool false, .slice none 0 0] 28)).frozen? ⟨w.heap.size + 1, 0, none⟩ = false := new_loose2 _ _ _ _ _ (by simp)
  have f1 : ((w.alloc (.cells #[v] 26)).alloc (.cells #[.bool false, .slice none 0 0] 28)).frozen? ⟨w.heap.size + 1, 1, none⟩ = false := new_loose2 _ _ _ _ _ (by simp)
  obtain ⟨a, c, rfl⟩ := Row.form' r
  clear r
  cases b
  · go_enter Tryd.func31, Tryd.ntmps31
    go_wp2_with fail
    generalize (w.alloc (.cells #[.slice a zs.length c] 26)).alloc (.cells #[.bool false, .slice none 0 0] 28) = W at *
    have b0 := World.block_lt_of_cell? _ _ d0
    dsimp only at b0
    have qd := q.kept ((Kept.refl 0 0 _).drew) (by omega)
    have cd : W.drew.cell? ⟨w.heap.size, 0, none⟩ = some (.slice a zs.length c) := c0
    refine wp_region_held_drew (S := fun w' => w'.cell? ⟨w.heap.size, 0, none⟩ = some (.slice a zs.length c)) (by kernel_rfl) ?_ (fun hHeld => ?_)
    · exact cd
    refine wpAnyH_take (i := 0) (oi := _) (v := .bool false) rfl (by kernel_rfl) (by kernel_rfl) (by kernel_rfl) (fun _ _ _ h => h) (Or.inl ⟨by rfl, ?_⟩) hHeld ?_
    · intro w hSw
      try dsimp only at hSw
      go_simp
    try simp only [Act.put, List.getElem_toArray, List.getElem_cons_succ, List.getElem_cons_zero, List.setIfInBounds_toArray, List.set_cons_zero, List.set_cons_succ]
    refine wpAnyH_take (i := 1) (oi := _) (v := .bool false) rfl (by kernel_rfl) (by kernel_rfl) (by kernel_rfl) (fun _ _ _ h => h) (Or.inl ⟨by rfl, ?_⟩) hHeld ?_
    · intro w hSw
      try dsimp only at hSw
      go_simp
    try simp only [Act.put, List.getElem_toArray, List.getElem_cons_succ, List.getElem_cons_zero, List.setIfInBounds_toArray, List.set_cons_zero, List.set_cons_succ]
    refine wpAnyH_take (i := 2) (v := undef) rfl (by kernel_rfl) (by kernel_rfl) (by kernel_rfl) (fun _ _ _ h => h) (Or.inr ⟨by rfl, rfl⟩) hHeld ?_
    try simp only [Act.put, List.getElem_toArray, List.getElem_cons_succ, List.getElem_cons_zero, List.setIfInBounds_toArray, List.set_cons_zero, List.set_cons_succ]
    refine wpAnyH_take (i := 3) (v := undef) rfl (by kernel_rfl) (by kernel_rfl) (by kernel_rfl) (fun _ _ _ h => h) (Or.inr ⟨by rfl, rfl⟩) hHeld ?_
    try simp only [Act.put, List.getElem_toArray, List.getElem_cons_succ, List.getElem_cons_zero, List.setIfInBounds_toArray, List.set_cons_zero, List.set_cons_succ]
    refine wpAnyH_take (i := 4) (v := undef) rfl (by kernel_rfl) (by kernel_rfl) (by kernel_rfl) (fun _ _ _ h => h) (Or.inr ⟨by rfl, rfl⟩) hHeld ?_
    try simp only [Act.put, List.getElem_toArray, List.getElem_cons_succ, List.getElem_cons_zero, List.setIfInBounds_toArray, List.set_cons_zero, List.set_cons_succ]
    refine wpAnyH_take (i := 5) (v := undef) rfl (by kernel_rfl) (by kernel_rfl) (by kernel_rfl) (fun _ _ _ h => h) (Or.inr ⟨by rfl, rfl⟩) hHeld ?_
    try simp only [Act.put, List.getElem_toArray, List.getElem_cons_succ, List.getElem_cons_zero, List.setIfInBounds_toArray, List.set_cons_zero, List.set_cons_succ]
    refine wpAnyH_take (i := 6) (oi := _) (v := .bool false) rfl (by kernel_rfl) (by kernel_rfl) (by kernel_rfl) (fun _ _ _ h => h) (Or.inl ⟨by rfl, ?_⟩) hHeld ?_
    · intro w hSw
      try dsimp only at hSw
      go_simp
    try simp only [Act.put, List.getElem_toArray, List.getElem_cons_succ, List.getElem_cons_zero, List.setIfInBounds_toArray, List.set_cons_zero, List.set_cons_succ]
    refine wpAnyH_take (i := 7) (oi := _) (v := .pointer (some ⟨w.heap.size, 0, none⟩)) rfl (by kernel_rfl) (by kernel_rfl) (by kernel_rfl) (fun _ _ _ h => h) (Or.inl ⟨by rfl, ?_⟩) hHeld ?_
    · intro w hSw
      try dsimp only at hSw
      go_simp
    try simp only [Act.put, List.getElem_toArray, List.getElem_cons_succ, List.getElem_cons_zero, List.setIfInBounds_toArray, List.set_cons_zero, List.set_cons_succ]
    refine wpAnyH_take (i := 8) (oi := _) (v := .slice a zs.length c) rfl (by kernel_rfl) (by kernel_rfl) (by kernel_rfl) (fun _ _ _ h => h) (Or.inl ⟨by rfl, ?_⟩) hHeld ?_
    · intro w hSw
      try dsimp only at hSw
      go_simp
    try simp only [Act.put, List.getElem_toArray, List.getElem_cons_succ, List.getElem_cons_zero, List.setIfInBounds_toArray, List.set_cons_zero, List.set_cons_succ]
    refine wpAnyH_ready (rs := [9]) (by kernel_rfl) (by simp) ?_
    refine AllReadyH.cons rfl (fun K hK => ?_) AllReadyH.nil
    simp only [List.getElem_toArray, List.getElem_cons_succ, List.getElem_cons_zero]
    rw [if_pos (by rfl)]
    refine wps1 38 (.tmp 13) _ rfl in_l2norm (.slice a zs.length c) rfl (norm_own _ qd hlen) ?_
    rintro e w3 ⟨v3, rfl, nm, k3⟩
    obtain ⟨zz, ow, ⟨kz, hkz, hzk⟩, -⟩ := nm
    have r3 := Row.own ow
    have HL : Hid (zz.length ≤ zs.length) := by show _ ≤ _; rw [hzk, List.length_take]; omega
    clear ow hzk hkz
    refine ⟨_, rfl, ?_⟩
    refine hK.out _ _ ?_ (fun hHeld => ?_)
    · exact k3.cell0 cd
    clear hK K
    try simp only [Act.put, List.getElem_toArray, List.getElem_cons_succ, List.getElem_cons_zero, List.setIfInBounds_toArray, List.set_cons_zero, List.set_cons_succ]
    have d03 := k3.cell0 (drew_cell d0)
    have d13 := k3.cell0 (drew_cell d1)
    have f03 := k3.loose0 b0 (drew_loose f0)
    have f13 := k3.loose0 b0 (drew_loose f1)
    have s3 := k3.size
    obtain ⟨a3, e3, rfl⟩ := Row.form' r3
    refine wpAnyH_take (i := 10) (oi := _) (v := .agg #[.bool false, .slice a3 zz.length e3]) rfl (by kernel_rfl) (by kernel_rfl) (by kernel_rfl) (fun _ _ _ h => h) (Or.inl ⟨by rfl, ?_⟩) hHeld ?_
    · intro w hSw
      try dsimp only at hSw
      go_simp
    try simp only [Act.put, List.getElem_toArray, List.getElem_cons_succ, List.getElem_cons_zero, List.setIfInBounds_toArray, List.set_cons_zero, List.set_cons_succ]
    refine wpAnyH_ready (rs := [11]) (by kernel_rfl) (by simp) ?_
    refine AllReadyH.cons rfl (fun K hK => ?_) AllReadyH.nil
    simp only [List.getElem_toArray, List.getElem_cons_succ, List.getElem_cons_zero]
    rw [if_pos (by rfl)]
    go_simp
    refine hK.out _ _ ?_ (fun hHeld => ?_)
    · exact cell_aside _ (by simp) (cell_aside _ (by simp) (k3.cell0 cd))
    clear hK K
    try simp only [Act.put, List.getElem_toArray, List.getElem_cons_succ, List.getElem_cons_zero, List.setIfInBounds_toArray, List.set_cons_zero, List.set_cons_succ]
    refine wpAnyH_done (by kernel_rfl) ?_ _
    have R := hide (((r3.set_other (p := ⟨w.heap.size + 1, 0, none⟩) (.inl b0) (.bool false)).set_other (p := ⟨w.heap.size + 1, 1, none⟩) (.inl b0) (.slice a3 zz.length e3)).tight.wider (lo' := w.heap.size) (by have : W.drew.heap.size = W.heap.size := rfl; omega) (Nat.le_refl _))
    have K7 := hide ((((k0.drew).trans k3).setNew (p := ⟨w.heap.size + 1, 0, none⟩) (by simp) (.bool false)).setNew (p := ⟨w.heap.size + 1, 1, none⟩) (by simp) (.slice a3 zz.length e3))
    clear r3 k3 k0 q qd hHeld cd c0
    go_wp2
    exact bodyPost_ret (v := .agg #[.bool false, .slice a3 zz.length e3]) (by simp [results, Tryd.results31, go_sem, d03, d13]) rfl ⟨_, _, rfl, unhide R, unhide HL, unhide K7⟩
  · go_enter Tryd.func31, Tryd.ntmps31
    go_wp2_with fail
    generalize (w.alloc (.cells #[.slice a zs.length c] 26)).alloc (.cells #[.bool false, .slice none 0 0] 28) = W at *
    have b0 := World.block_lt_of_cell? _ _ d0
    dsimp only at b0
    have qd := q.kept ((Kept.refl 0 0 _).drew) (by omega)
    have cd : W.drew.cell? ⟨w.heap.size, 0, none⟩ = some (.slice a zs.length c) := c0
    refine wp_region_held_drew (S := fun w' => w'.cell? ⟨w.heap.size, 0, none⟩ = some (.slice a zs.length c)) (by kernel_rfl) ?_ (fun hHeld => ?_)
    · exact cd
    refine wpAnyH_take (i := 0) (oi := _) (v := .bool true) rfl (by kernel_rfl) (by kernel_rfl) (by kernel_rfl) (fun _ _ _ h => h) (Or.inl ⟨by rfl, ?_⟩) hHeld ?_
    · intro w hSw
      try dsimp only at hSw
      go_simp
    try simp only [Act.put, List.getElem_toArray, List.getElem_cons_succ, List.getElem_cons_zero, List.setIfInBounds_toArray, List.set_cons_zero, List.set_cons_succ]
    refine wpAnyH_take (i := 1) (oi := _) (v := .bool true) rfl (by kernel_rfl) (by kernel_rfl) (by kernel_rfl) (fun _ _ _ h => h) (Or.inl ⟨by rfl, ?_⟩) hHeld ?_
    · intro w hSw
      try dsimp only at hSw
      go_simp
    try simp only [Act.put, List.getElem_toArray, List.getElem_cons_succ, List.getElem_cons_zero, List.setIfInBounds_toArray, List.set_cons_zero, List.set_cons_succ]
    refine wpAnyH_take (i := 2) (oi := _) (v := .pointer (some ⟨w.heap.size, 0, none⟩)) rfl (by kernel_rfl) (by kernel_rfl) (by kernel_rfl) (fun _ _ _ h => h) (Or.inl ⟨by rfl, ?_⟩) hHeld ?_
    · intro w hSw
      try dsimp only at hSw
      go_simp
    try simp only [Act.put, List.getElem_toArray, List.getElem_cons_succ, List.getElem_cons_zero, List.setIfInBounds_toArray, List.set_cons_zero, List.set_cons_succ]
    refine wpAnyH_take (i := 3) (oi := _) (v := .slice a zs.length c) rfl (by kernel_rfl) (by kernel_rfl) (by kernel_rfl) (fun _ _ _ h => h) (Or.inl ⟨by rfl, ?_⟩) hHeld ?_
    · intro w hSw
      try dsimp only at hSw
      go_simp
    try simp only [Act.put, List.getElem_toArray, List.getElem_cons_succ, List.getElem_cons_zero, List.setIfInBounds_toArray, List.set_cons_zero, List.set_cons_succ]
    refine wpAnyH_take (i := 4) (oi := _) (v := .int .i64 zs.length) rfl (by kernel_rfl) (by kernel_rfl) (by kernel_rfl) (fun _ _ _ h => h) (Or.inl ⟨by rfl, ?_⟩) hHeld ?_
    · intro w hSw
      try dsimp only at hSw
      go_simp
    try simp only [Act.put, List.getElem_toArray, List.getElem_cons_succ, List.getElem_cons_zero, List.setIfInBounds_toArray, List.set_cons_zero, List.set_cons_succ]
    refine wpAnyH_take (i := 5) (oi := _) (v := .bool (decide (0 < zs.length))) rfl (by kernel_rfl) (by kernel_rfl) (by kernel_rfl) (fun _ _ _ h => h) (Or.inl ⟨by rfl, ?_⟩) hHeld ?_
    · intro w hSw
      try dsimp only at hSw
      go_simp
    try simp only [Act.put, List.getElem_toArray, List.getElem_cons_succ, List.getElem_cons_zero, List.setIfInBounds_toArray, List.set_cons_zero, List.set_cons_succ]
    refine wpAnyH_take (i := 6) (oi := _) (v := .bool (decide (0 < zs.length))) rfl (by kernel_rfl) (by kernel_rfl) (by kernel_rfl) (fun _ _ _ h => h) (Or.inl ⟨by rfl, ?_⟩) hHeld ?_
    · intro w hSw
      try dsimp only at hSw
      go_simp
    try simp only [Act.put, List.getElem_toArray, List.getElem_cons_succ, List.getElem_cons_zero, List.setIfInBounds_toArray, List.set_cons_zero, List.set_cons_succ]
    refine wpAnyH_take (i := 7) (oi := _) (v := .pointer (some ⟨w.heap.size, 0, none⟩)) rfl (by kernel_rfl) (by kernel_rfl) (by kernel_rfl) (fun _ _ _ h => h) (Or.inl ⟨by rfl, ?_⟩) hHeld ?_
    · intro w hSw
      try dsimp only at hSw
      go_simp
    try simp only [Act.put, List.getElem_toArray, List.getElem_cons_succ, List.getElem_cons_zero, List.setIfInBounds_toArray, List.set_cons_zero, List.set_cons_succ]
    refine wpAnyH_take (i := 8) (oi := _) (v := .slice a zs.length c) rfl (by kernel_rfl) (by kernel_rfl) (by kernel_rfl) (fun _ _ _ h => h) (Or.inl ⟨by rfl, ?_⟩) hHeld ?_
    · intro w hSw
      try dsimp only at hSw
      go_simp
    try simp only [Act.put, List.getElem_toArray, List.getElem_cons_succ, List.getElem_cons_zero, List.setIfInBounds_toArray, List.set_cons_zero, List.set_cons_succ]
    refine wpAnyH_ready (rs := [9]) (by kernel_rfl) (by simp) ?_
    refine AllReadyH.cons rfl (fun K hK => ?_) AllReadyH.nil
    simp only [List.getElem_toArray, List.getElem_cons_succ, List.getElem_cons_zero]
    rw [if_pos (by rfl)]
    refine wps1 38 (.tmp 13) _ rfl in_l2norm (.slice a zs.length c) rfl (norm_own _ qd hlen) ?_
    rintro e w3 ⟨v3, rfl, nm, k3⟩
    obtain ⟨zz, ow, ⟨kz, hkz, hzk⟩, -⟩ := nm
    have r3 := Row.own ow
    have HL : Hid (zz.length ≤ zs.length) := by show _ ≤ _; rw [hzk, List.length_take]; omega
    clear ow hzk hkz
    refine ⟨_, rfl, ?_⟩
    refine hK.out _ _ ?_ (fun hHeld => ?_)
    · exact k3.cell0 cd
    clear hK K
    try simp only [Act.put, List.getElem_toArray, List.getElem_cons_succ, List.getElem_cons_zero, List.setIfInBounds_toArray, List.set_cons_zero, List.set_cons_succ]
    have d03 := k3.cell0 (drew_cell d0)
    have d13 := k3.cell0 (drew_cell d1)
    have f03 := k3.loose0 b0 (drew_loose f0)
    have f13 := k3.loose0 b0 (drew_loose f1)
    have s3 := k3.size
    obtain ⟨a3, e3, rfl⟩ := Row.form' r3
    refine wpAnyH_take (i := 10) (oi := _) (v := .agg #[.bool (decide (0 < zs.length)), .slice a3 zz.length e3]) rfl (by kernel_rfl) (by kernel_rfl) (by kernel_rfl) (fun _ _ _ h => h) (Or.inl ⟨by rfl, ?_⟩) hHeld ?_
    · intro w hSw
      try dsimp only at hSw
      go_simp
    try simp only [Act.put, List.getElem_toArray, List.getElem_cons_succ, List.getElem_cons_zero, List.setIfInBounds_toArray, List.set_cons_zero, List.set_cons_succ]
    refine wpAnyH_ready (rs := [11]) (by kernel_rfl) (by simp) ?_
    refine AllReadyH.cons rfl (fun K hK => ?_) AllReadyH.nil
    simp only [List.getElem_toArray, List.getElem_cons_succ, List.getElem_cons_zero]
    rw [if_pos (by rfl)]
    go_simp
    refine hK.out _ _ ?_ (fun hHeld => ?_)
    · exact cell_aside _ (by simp) (cell_aside _ (by simp) (k3.cell0 cd))
    clear hK K
    try simp only [Act.put, List.getElem_toArray, List.getElem_cons_succ, List.getElem_cons_zero, List.setIfInBounds_toArray, List.set_cons_zero, List.set_cons_succ]
    refine wpAnyH_done (by kernel_rfl) ?_ _
    have R := hide (((r3.set_other (p := ⟨w.heap.size + 1, 0, none⟩) (.inl b0) (.bool (decide (0 < zs.length)))).set_other (p := ⟨w.heap.size + 1, 1, none⟩) (.inl b0) (.slice a3 zz.length e3)).tight.wider (lo' := w.heap.size) (by have : W.drew.heap.size = W.heap.size := rfl; omega) (Nat.le_refl _))
    have K7 := hide ((((k0.drew).trans k3).setNew (p := ⟨w.heap.size + 1, 0, none⟩) (by simp) (.bool (decide (0 < zs.length)))).setNew (p := ⟨w.heap.size + 1, 1, none⟩) (by simp) (.slice a3 zz.length e3))
    clear r3 k3 k0 q qd hHeld cd c0
    go_wp2
    exact bodyPost_ret (v := .agg #[.bool (decide (0 < zs.length)), .slice a3 zz.length e3]) (by simp [results, Tryd.results31, go_sem, d03, d13]) rfl ⟨_, _, rfl, unhide R, unhide HL, unhide K7⟩

end Go.Proofs.YtckolgaalkohlaaDoor
