/-
  MatTrace of the model.
-/
import Derived.Test.YtagaofpkfpfilaaGreatDoorMtr1
import Derived.Test.YtagaofpkfpfilaaGreatDoorDy9
import Derived.Test.YtagaofpkfpfilaaGreatDoorBC
import Derived.Deep.DeepCutAuto
import Derived.Deep.RegionHeld3
namespace Go.Proofs.YtagaofpkfpfilaaGreatDoor
open Go.RowKit
set_option linter.unusedVariables false
set_option maxRecDepth 8000
set_option linter.unusedSimpArgs false

theorem old_loose {w : World} {a : Addr} (o : Obj) (hb : a.block < w.heap.size) (h : w.frozen? a = false) : (w.alloc o).frozen? a = false := ((Kept.refl 0 0 w).alloc o).loose0 hb h
theorem nE_zero (L : Int) : nE 0 L = (false, [], 0) := by unfold nE; rw [dlm_zero]; rfl
/-- The box X holds V in its one form. -/
def BoxT (lo : Nat) (w : World) (X : Nat) (V : Int) : Prop :=
  ∃ a c, w.cell? ⟨X, 0, none⟩ = some (.bool (nE V (-3000)).1) ∧ w.cell? ⟨X, 1, none⟩ = some (.slice a (nE V (-3000)).2.1.length c) ∧ w.cell? ⟨X, 2, none⟩ = some (.int .i64 (nE V (-3000)).2.2) ∧ Row .i64 true lo w.heap.size w (.slice a (nE V (-3000)).2.1.length c) (nE V (-3000)).2.1

set_option maxHeartbeats 16000000 in
theorem trace8_spec {k lo hi : Nat} {v : Value} {ds : List DE} (w : World) (hk0 : 0 < k) (hk : k ≤ 4) (hl : ds.length = k * k) (U : ∀ p, p < k * k → dOkE (ds.getD p de0) = true) (r : Dys lo hi w v ds) :
    Calls Tryz.prog 26 #[.agg #[.int .i64 (k : Int), v]] w fun e w' => ∃ v', e = .returned (.agg #[.bool (nE (psum (trF k ds) k) (-3000)).1, v', .int .i64 (nE (psum (trF k ds) k) (-3000)).2.2]) ∧ Row .i64 true w.heap.size w'.heap.size w' v' (nE (psum (trF k ds) k) (-3000)).2.1 ∧ Kept 0 0 w w' := by
  obtain ⟨W, hW⟩ : ∃ W, W = ((w.alloc (.cells #[.int .i64 (k : Int), v] 37)).alloc (.cells #[.bool false, .slice none 0 0, .int .i64 0] 32)).alloc (.cells #[.bool false, .slice none 0 0, .int .i64 0] 32) := ⟨_, rfl⟩
  have k0 : Kept 0 0 w W := by rw [hW]; exact (((Kept.refl 0 0 w).alloc _).alloc _).alloc _
  have c0 : W.cell? ⟨w.heap.size, 0, none⟩ = some (.int .i64 (k : Int)) := by rw [hW]; exact old_cell _ (old_cell _ (new_cell2 _ _ _ _ _ _ (by simp) rfl))
  have c1 : W.cell? ⟨w.heap.size, 1, none⟩ = some v := by rw [hW]; exact old_cell _ (old_cell _ (new_cell2 _ _ _ _ _ _ (by simp) rfl))
  have q0 : W.cell? ⟨w.heap.size + 1, 0, none⟩ = some (.bool false) := by rw [hW]; exact old_cell _ (new_cell2 _ _ _ _ _ _ (by simp) rfl)
  have q1 : W.cell? ⟨w.heap.size + 1, 1, none⟩ = some (.slice none 0 0) := by rw [hW]; exact old_cell _ (new_cell2 _ _ _ _ _ _ (by simp) rfl)
  have q2 : W.cell? ⟨w.heap.size + 1, 2, none⟩ = some (.int .i64 0) := by rw [hW]; exact old_cell _ (new_cell2 _ _ _ _ _ _ (by simp) rfl)
  have f0 : W.frozen? ⟨w.heap.size + 1, 0, none⟩ = false := by rw [hW]; exact old_loose _ (by simp) (new_loose2 _ _ _ _ _ (by simp))
  have f1 : W.frozen? ⟨w.heap.size + 1, 1, none⟩ = false := by rw [hW]; exact old_loose _ (by simp) (new_loose2 _ _ _ _ _ (by simp))
  have f2 : W.frozen? ⟨w.heap.size + 1, 2, none⟩ = false := by rw [hW]; exact old_loose _ (by simp) (new_loose2 _ _ _ _ _ (by simp))
  have x0 : W.cell? ⟨w.heap.size + 2, 0, none⟩ = some (.bool false) := by rw [hW]; exact new_cell2 _ _ _ _ _ _ (by simp) rfl
  have x1 : W.cell? ⟨w.heap.size + 2, 1, none⟩ = some (.slice none 0 0) := by rw [hW]; exact new_cell2 _ _ _ _ _ _ (by simp) rfl
  have x2 : W.cell? ⟨w.heap.size + 2, 2, none⟩ = some (.int .i64 0) := by rw [hW]; exact new_cell2 _ _ _ _ _ _ (by simp) rfl
  have xf0 : W.frozen? ⟨w.heap.size + 2, 0, none⟩ = false := by rw [hW]; exact new_loose2 _ _ _ _ _ (by simp)
  have xf1 : W.frozen? ⟨w.heap.size + 2, 1, none⟩ = false := by rw [hW]; exact new_loose2 _ _ _ _ _ (by simp)
  have xf2 : W.frozen? ⟨w.heap.size + 2, 2, none⟩ = false := by rw [hW]; exact new_loose2 _ _ _ _ _ (by simp)
  have sW : W.heap.size = w.heap.size + 3 := by rw [hW]; simp
  have h16 : k * k ≤ 4 * 4 := Nat.mul_le_mul hk hk
  obtain ⟨n, hnn⟩ : ∃ n, n = k * k := ⟨_, rfl⟩
  obtain ⟨a1, e1, rfl, -, -⟩ := r.form
  rw [← hnn] at hl h16
  rw [hl] at r c1 hW ⊢
  have R1 := hide r
  have HNN := hide hnn
  have HU := hide U
  have HL := hide hl
  have K0 := hide k0
  have BX : Hid (BoxT (w.heap.size + 3) W (w.heap.size + 2) (psum (trF k ds) 0)) := by
    show BoxT _ _ _ 0
    unfold BoxT
    rw [nE_zero]
    exact ⟨none, 0, x0, x1, x2, Row.nil _ _ _ _ _⟩
  have XF : Hid (W.frozen? ⟨w.heap.size + 2, 0, none⟩ = false ∧ W.frozen? ⟨w.heap.size + 2, 1, none⟩ = false ∧ W.frozen? ⟨w.heap.size + 2, 2, none⟩ = false) := ⟨xf0, xf1, xf2⟩
  have SW := hide sW
  clear r U hl hnn k0 x0 x1 x2 xf0 xf1 xf2 sW
  go_enter Tryz.func26, Tryz.ntmps26
  go_wp2_with fail
  rw [← hW]
  clear hW
  go_loopw [4] (fun s4 wy => ∃ t : Nat, s4 = .int .i64 t ∧ t ≤ k ∧ Hid (BoxT (w.heap.size + 3) wy (w.heap.size + 2) (psum (trF k ds) t)) ∧ Hid (Kept (w.heap.size + 2) (w.heap.size + 3) W wy ∧ wy.frozen? ⟨w.heap.size + 2, 0, none⟩ = false ∧ wy.frozen? ⟨w.heap.size + 2, 1, none⟩ = false ∧ wy.frozen? ⟨w.heap.size + 2, 2, none⟩ = false)) (fun s4 _ => k - (intOf s4).toNat)
  case atStart => exact ⟨0, rfl, Nat.zero_le _, BX, ⟨Kept.refl _ _ _, (unhide XF).1, (unhide XF).2.1, (unhide XF).2.2⟩⟩
  case round =>
    clear BX XF
    obtain ⟨t, rfl, ht, hB, hK⟩ := hrel
    have hwt : IntKind.i64.wrap ((t : Int) + 1) = ((t + 1 : Nat) : Int) := by rw [IntKind.wrap_i64]; omega
    have sW := unhide SW
    have C0 := (unhide hK).1.cellOut (a := ⟨w.heap.size, 0, none⟩) (by dsimp only; omega) c0
    by_cases hltt : t < k
    · have hp1 := place_lt hltt hltt
      obtain ⟨p1, hp1'⟩ : ∃ p, p = t * k + t := ⟨_, rfl⟩
      have hpn1 : p1 < n := by rw [unhide HNN]; omega
      have htk : t * k ≤ k * k := Nat.mul_le_mul_right k (by omega)
      have hkk : k * k = n := (unhide HNN).symm
      have hw3 : IntKind.i64.wrap ((t : Int) * (k : Int)) = (((t * k : Nat)) : Int) := by rw [IntKind.wrap_i64, ← Int.natCast_mul]; omega
      have hw4 : IntKind.i64.wrap ((((t * k : Nat)) : Int) + (t : Int)) = (p1 : Int) := by rw [IntKind.wrap_i64, hp1']; omega
      have kwy : Kept 0 0 w wr := (unhide K0).wide (unhide hK).1 (by omega)
      have kd : Kept 0 0 w wr.drew := kwy.drew
      have D0 : wr.drew.cell? ⟨w.heap.size, 0, none⟩ = some (.int .i64 (k : Int)) := C0
      have A1 : wr.drew.cell? ⟨w.heap.size, 1, none⟩ = some (.slice a1 n e1) := (unhide hK).1.cellOut (a := ⟨w.heap.size, 1, none⟩) (by dsimp only; omega) c1
      have hok1 := unhide HU p1 (by omega)
      obtain ⟨gA, off, ln, hA, -, -, hgA, b, kb, m0, m1, m2, hln, rr⟩ := (unhide R1).at (i := p1) (by rw [unhide HL]; exact hpn1)
      cases hA
      replace m0 := kd.cell0 m0
      replace m1 := kd.cell0 m1
      replace m2 := kd.cell0 m2
      replace rr := rr.kept kd (by omega)
      obtain ⟨⟨s0, z0, y0⟩, hE0⟩ : ∃ q, q = ds.getD p1 de0 := ⟨_, rfl⟩
      rw [← hE0] at m0 m2 hln rr hok1
      dsimp only at m0 m2 hln rr
      subst hln
      obtain ⟨au, cu, x0, x1, x2, rX⟩ := unhide hB
      obtain ⟨SM, hSM⟩ : ∃ q, q = psum (trF k ds) t := ⟨_, rfl⟩
      have hSMl : SM.natAbs < 2 ^ AA := by rw [hSM]; exact trS_lt hk (by omega) (unhide HU)
      have hSM1 : (SM + dv (-3000) (s0, z0, y0)) = psum (trF k ds) (t + 1) := by
        show _ = psum _ t + trF k ds t
        unfold trF
        rw [← hp1', ← hE0]
        unfold trF at hSM
        rw [hSM]
      rw [← hSM] at x0 x1 x2 rX
      obtain ⟨⟨su, zu, yu⟩, hU⟩ : ∃ q, q = nE SM (-3000) := ⟨_, rfl⟩
      rw [← hU] at x0 x1 x2 rX
      dsimp only at x0 x1 x2 rX
      have hwbU : WB su zu yu := by
        have := nE_wb (L := -3000) hSMl (by decide) (by decide) (by decide)
        have e : (su, zu, yu) = (wsg SM, dlm SM, dex SM (-3000)) := hU
        simp only [Prod.mk.injEq] at e
        rw [e.1, e.2.1, e.2.2]
        exact this
      have hivU : IsV (-3000) SM (su, zu, yu) := by rw [hU]; exact nE_isV (by decide)
      have hivM := (dok_nv hok1 (Int.le_refl (-3000))).1
      obtain ⟨⟨sr, zr, yr⟩, hR⟩ : ∃ q, q = nE (psum (trF k ds) (t + 1)) (-3000) := ⟨_, rfl⟩
      have hR' : (sr, zr, yr) = (wsg (wval su zu * 2 ^ (yu - min yu y0).toNat + wval s0 z0 * 2 ^ (y0 - min yu y0).toNat), dlm (wval su zu * 2 ^ (yu - min yu y0).toNat + wval s0 z0 * 2 ^ (y0 - min yu y0).toNat), dex (wval su zu * 2 ^ (yu - min yu y0).toNat + wval s0 z0 * 2 ^ (y0 - min yu y0).toNat) (min yu y0)) := by
        rw [hR, ← hSM1, ← sum_nE hivU hivM]
        rfl
      simp only [Prod.mk.injEq] at hR'
      have had := add4_wide su s0 yu y0 wr.drew (rX.kept ((Kept.refl 0 0 wr).drew) (by omega)) rr hwbU (dok_wb hok1)
      rw [← hR'.1, ← hR'.2.1, ← hR'.2.2] at had
      have HR := hide hR
      have X0 : wr.drew.cell? ⟨w.heap.size + 2, 0, none⟩ = some (.bool su) := x0
      have X1 : wr.drew.cell? ⟨w.heap.size + 2, 1, none⟩ = some (.slice au zu.length cu) := x1
      have X2 : wr.drew.cell? ⟨w.heap.size + 2, 2, none⟩ = some (.int .i64 yu) := x2
      have XF0 : wr.drew.frozen? ⟨w.heap.size + 2, 0, none⟩ = false := (unhide hK).2.1
      have XF1 : wr.drew.frozen? ⟨w.heap.size + 2, 1, none⟩ = false := (unhide hK).2.2.1
      have XF2 : wr.drew.frozen? ⟨w.heap.size + 2, 2, none⟩ = false := (unhide hK).2.2.2
      have KY := hide (unhide hK).1.drew
      have hXw : w.heap.size + 2 < wr.heap.size := World.block_lt_of_cell? _ _ x0
      obtain ⟨tk, htk'⟩ : ∃ im : Nat, t * k = im := ⟨_, rfl⟩
      rw [htk'] at hw3 hw4
      clear hp1 hp1' htk hkk kwy kd hok1 rr hE0 hSM hSMl hSM1 hU hwbU hivU hivM hR hR' x0 x1 x2 rX htk' hB hK sW
      go_wp2_with fail
      refine wp_region_held_drew (S := (fun w' => w'.cell? ⟨w.heap.size, 0, none⟩ = some (.int .i64 (k : Int)) ∧ w'.cell? ⟨w.heap.size, 1, none⟩ = some (.slice (some ⟨gA, off, none⟩) n e1) ∧ w'.cell? ⟨gA, off + p1 * 3, none⟩ = some (.bool s0) ∧ w'.cell? ⟨gA, off + p1 * 3 + 1, none⟩ = some (.slice b z0.length kb) ∧ w'.cell? ⟨gA, off + p1 * 3 + 2, none⟩ = some (.int .i64 y0))) (by kernel_rfl) ?_ (fun hHeld => ?_)
      · exact ⟨D0, A1, m0, m1, m2⟩
      refine wpAnyH_take (i := 1) (oi := _) (v := .pointer (some ⟨w.heap.size, 1, none⟩)) rfl (by kernel_rfl) (by kernel_rfl) (by kernel_rfl) (fun _ _ _ h => h) (Or.inl ⟨by rfl, ?_⟩) hHeld ?_
      · intro wq hSw
        try dsimp only at hSw
        go_simp
      try simp only [Act.put, List.getElem_toArray, List.getElem_cons_succ, List.getElem_cons_zero, List.setIfInBounds_toArray, List.set_cons_zero, List.set_cons_succ]
      refine wpAnyH_take (i := 2) (oi := _) (v := .slice (some ⟨gA, off, none⟩) n e1) rfl (by kernel_rfl) (by kernel_rfl) (by kernel_rfl) (fun _ _ _ h => h) (Or.inl ⟨by rfl, ?_⟩) hHeld ?_
      · intro wq hSw
        try dsimp only at hSw
        go_simp
      try simp only [Act.put, List.getElem_toArray, List.getElem_cons_succ, List.getElem_cons_zero, List.setIfInBounds_toArray, List.set_cons_zero, List.set_cons_succ]
      refine wpAnyH_take (i := 3) (oi := _) (v := .int .i64 (t : Int)) rfl (by kernel_rfl) (by kernel_rfl) (by kernel_rfl) (fun _ _ _ h => h) (Or.inl ⟨by rfl, ?_⟩) hHeld ?_
      · intro wq hSw
        try dsimp only at hSw
        go_simp
      try simp only [Act.put, List.getElem_toArray, List.getElem_cons_succ, List.getElem_cons_zero, List.setIfInBounds_toArray, List.set_cons_zero, List.set_cons_succ]
      refine wpAnyH_take (i := 4) (oi := _) (v := .pointer (some ⟨w.heap.size, 0, none⟩)) rfl (by kernel_rfl) (by kernel_rfl) (by kernel_rfl) (fun _ _ _ h => h) (Or.inl ⟨by rfl, ?_⟩) hHeld ?_
      · intro wq hSw
        try dsimp only at hSw
        go_simp
      try simp only [Act.put, List.getElem_toArray, List.getElem_cons_succ, List.getElem_cons_zero, List.setIfInBounds_toArray, List.set_cons_zero, List.set_cons_succ]
      refine wpAnyH_take (i := 5) (oi := _) (v := .int .i64 (k : Int)) rfl (by kernel_rfl) (by kernel_rfl) (by kernel_rfl) (fun _ _ _ h => h) (Or.inl ⟨by rfl, ?_⟩) hHeld ?_
      · intro wq hSw
        try dsimp only at hSw
        go_simp
      try simp only [Act.put, List.getElem_toArray, List.getElem_cons_succ, List.getElem_cons_zero, List.setIfInBounds_toArray, List.set_cons_zero, List.set_cons_succ]
      refine wpAnyH_take (i := 6) (oi := _) (v := .int .i64 (tk : Int)) rfl (by kernel_rfl) (by kernel_rfl) (by kernel_rfl) (fun _ _ _ h => h) (Or.inl ⟨by rfl, ?_⟩) hHeld ?_
      · intro wq hSw
        try dsimp only at hSw
        go_simp
      try simp only [Act.put, List.getElem_toArray, List.getElem_cons_succ, List.getElem_cons_zero, List.setIfInBounds_toArray, List.set_cons_zero, List.set_cons_succ]
      refine wpAnyH_take (i := 7) (oi := _) (v := .int .i64 (t : Int)) rfl (by kernel_rfl) (by kernel_rfl) (by kernel_rfl) (fun _ _ _ h => h) (Or.inl ⟨by rfl, ?_⟩) hHeld ?_
      · intro wq hSw
        try dsimp only at hSw
        go_simp
      try simp only [Act.put, List.getElem_toArray, List.getElem_cons_succ, List.getElem_cons_zero, List.setIfInBounds_toArray, List.set_cons_zero, List.set_cons_succ]
      refine wpAnyH_take (i := 8) (oi := _) (v := .int .i64 (p1 : Int)) rfl (by kernel_rfl) (by kernel_rfl) (by kernel_rfl) (fun _ _ _ h => h) (Or.inl ⟨by rfl, ?_⟩) hHeld ?_
      · intro wq hSw
        try dsimp only at hSw
        go_simp
      try simp only [Act.put, List.getElem_toArray, List.getElem_cons_succ, List.getElem_cons_zero, List.setIfInBounds_toArray, List.set_cons_zero, List.set_cons_succ]
      refine wpAnyH_take (i := 9) (oi := _) (v := .pointer (some ⟨gA, off + p1 * 3, none⟩)) rfl (by kernel_rfl) (by kernel_rfl) (by kernel_rfl) (fun _ _ _ h => h) (Or.inl ⟨by rfl, ?_⟩) hHeld ?_
      · intro wq hSw
        try dsimp only at hSw
        go_simp
      try simp only [Act.put, List.getElem_toArray, List.getElem_cons_succ, List.getElem_cons_zero, List.setIfInBounds_toArray, List.set_cons_zero, List.set_cons_succ]
      refine wpAnyH_take (i := 10) (oi := _) (v := .agg #[.bool s0, .slice b z0.length kb, .int .i64 y0]) rfl (by kernel_rfl) (by kernel_rfl) (by kernel_rfl) (fun _ _ _ h => h) (Or.inl ⟨by rfl, ?_⟩) hHeld ?_
      · intro wq hSw
        try dsimp only at hSw
        go_simp
      try simp only [Act.put, List.getElem_toArray, List.getElem_cons_succ, List.getElem_cons_zero, List.setIfInBounds_toArray, List.set_cons_zero, List.set_cons_succ]
      refine wpAnyH_ready (rs := [0]) (by kernel_rfl) (by simp) ?_
      refine AllReadyH.cons rfl (fun KK hK => ?_) AllReadyH.nil
      simp only [List.getElem_toArray, List.getElem_cons_succ, List.getElem_cons_zero]
      rw [if_pos (by rfl)]
      go_simp
      clear hHeld
      refine hK.out _ _ ?_ (fun hHeld => ?_)
      · exact ⟨D0, A1, m0, m1, m2⟩
      clear hK KK
      try simp only [Act.put, List.getElem_toArray, List.getElem_cons_succ, List.getElem_cons_zero, List.setIfInBounds_toArray, List.set_cons_zero, List.set_cons_succ]
      refine wpAnyH_ready (rs := [11]) (by kernel_rfl) (by simp) ?_
      refine AllReadyH.cons rfl (fun KK hK => ?_) AllReadyH.nil
      simp only [List.getElem_toArray, List.getElem_cons_succ, List.getElem_cons_zero]
      rw [if_pos (by rfl)]
      refine wps2 50 (.tmp 11) (.tmp 21) _ rfl in_l4add (.agg #[.bool su, .slice au zu.length cu, .int .i64 yu]) (.agg #[.bool s0, .slice b z0.length kb, .int .i64 y0]) rfl rfl had ?_
      rintro e w4 ⟨v4, rfl, r4, k4⟩
      refine ⟨_, rfl, ?_⟩
      obtain ⟨ar, cr, hv4⟩ := Row.form' r4
      subst hv4
      replace XF0 := k4.loose0 (World.block_lt_of_cell? _ _ X0) XF0
      replace XF1 := k4.loose0 (World.block_lt_of_cell? _ _ X1) XF1
      replace XF2 := k4.loose0 (World.block_lt_of_cell? _ _ X2) XF2
      replace KY := hide ((unhide KY).trans k4.any)
      have R4 := hide r4
      have z4 : wr.heap.size ≤ w4.heap.size := k4.size
      replace D0 := k4.cell0 D0
      replace A1 := k4.cell0 A1
      replace m0 := k4.cell0 m0
      replace m1 := k4.cell0 m1
      replace m2 := k4.cell0 m2
      replace X0 := k4.cell0 X0
      replace X1 := k4.cell0 X1
      replace X2 := k4.cell0 X2
      clear had r4 k4
      clear hHeld
      refine hK.out _ _ ?_ (fun hHeld => ?_)
      · exact ⟨D0, A1, m0, m1, m2⟩
      clear hK KK
      try simp only [Act.put, List.getElem_toArray, List.getElem_cons_succ, List.getElem_cons_zero, List.setIfInBounds_toArray, List.set_cons_zero, List.set_cons_succ]
      refine wpAnyH_ready (rs := [12]) (by kernel_rfl) (by simp) ?_
      refine AllReadyH.cons rfl (fun KK hK => ?_) AllReadyH.nil
      simp only [List.getElem_toArray, List.getElem_cons_succ, List.getElem_cons_zero]
      rw [if_pos (by rfl)]
      go_simp
      clear hHeld
      refine hK.out _ _ ?_ (fun hHeld => ?_)
      · exact ⟨(cell_aside _ (by dsimp only; omega) (cell_aside _ (by dsimp only; omega) (cell_aside _ (by dsimp only; omega) D0))), (cell_aside _ (by dsimp only; omega) (cell_aside _ (by dsimp only; omega) (cell_aside _ (by dsimp only; omega) A1))), (cell_aside _ (by dsimp only; omega) (cell_aside _ (by dsimp only; omega) (cell_aside _ (by dsimp only; omega) m0))), (cell_aside _ (by dsimp only; omega) (cell_aside _ (by dsimp only; omega) (cell_aside _ (by dsimp only; omega) m1))), (cell_aside _ (by dsimp only; omega) (cell_aside _ (by dsimp only; omega) (cell_aside _ (by dsimp only; omega) m2)))⟩
      clear hK KK
      try simp only [Act.put, List.getElem_toArray, List.getElem_cons_succ, List.getElem_cons_zero, List.setIfInBounds_toArray, List.set_cons_zero, List.set_cons_succ]
      refine wpAnyH_done (by kernel_rfl) ?_ _
      clear hHeld
      have ks : Kept (w.heap.size + 2) (w.heap.size + 3) w4 (((w4.setCell ⟨w.heap.size + 2, 0, none⟩ (.bool sr)).setCell ⟨w.heap.size + 2, 1, none⟩ (.slice ar zr.length cr)).setCell ⟨w.heap.size + 2, 2, none⟩ (.int .i64 yr)) := (((Kept.refl _ _ _).setCell (p := ⟨w.heap.size + 2, 0, none⟩) (Nat.le_refl _) (Nat.lt_succ_self _) _).setCell (p := ⟨w.heap.size + 2, 1, none⟩) (Nat.le_refl _) (Nat.lt_succ_self _) _).setCell (p := ⟨w.heap.size + 2, 2, none⟩) (Nat.le_refl _) (Nat.lt_succ_self _) _
      have Y0 := cell_off _ _ _ 2 (.int .i64 yr) _ (cell_off _ _ _ 1 (.slice ar zr.length cr) _ (cell_on _ _ _ (.bool sr) _ X0) (show (0 : Nat) ≠ 1 by omega)) (show (0 : Nat) ≠ 2 by omega)
      have Y1 := cell_off _ _ _ 2 (.int .i64 yr) _ (cell_on _ _ _ (.slice ar zr.length cr) _ (cell_off _ _ _ 0 (.bool sr) _ X1 (show (1 : Nat) ≠ 0 by omega))) (show (1 : Nat) ≠ 2 by omega)
      have Y2 := cell_on _ _ _ (.int .i64 yr) _ (cell_off _ _ _ 1 (.slice ar zr.length cr) _ (cell_off _ _ _ 0 (.bool sr) _ X2 (show (2 : Nat) ≠ 0 by omega)) (show (2 : Nat) ≠ 1 by omega))
      have hsz : (((w4.setCell ⟨w.heap.size + 2, 0, none⟩ (.bool sr)).setCell ⟨w.heap.size + 2, 1, none⟩ (.slice ar zr.length cr)).setCell ⟨w.heap.size + 2, 2, none⟩ (.int .i64 yr)).heap.size = w4.heap.size := by rw [size_set, size_set, size_set]
      have hdr : wr.drew.heap.size = wr.heap.size := rfl
      have BXX : Hid (BoxT (w.heap.size + 3) (((w4.setCell ⟨w.heap.size + 2, 0, none⟩ (.bool sr)).setCell ⟨w.heap.size + 2, 1, none⟩ (.slice ar zr.length cr)).setCell ⟨w.heap.size + 2, 2, none⟩ (.int .i64 yr)) (w.heap.size + 2) (psum (trF k ds) (t + 1))) := by
        unfold Hid BoxT
        rw [← unhide HR]
        exact ⟨ar, cr, Y0, Y1, Y2, (((unhide R4).kept ks (by omega)).wider (lo' := w.heap.size + 3) (hi' := (((w4.setCell ⟨w.heap.size + 2, 0, none⟩ (.bool sr)).setCell ⟨w.heap.size + 2, 1, none⟩ (.slice ar zr.length cr)).setCell ⟨w.heap.size + 2, 2, none⟩ (.int .i64 yr)).heap.size) (by omega) (by omega))⟩
      have KXX : Hid (Kept (w.heap.size + 2) (w.heap.size + 3) W (((w4.setCell ⟨w.heap.size + 2, 0, none⟩ (.bool sr)).setCell ⟨w.heap.size + 2, 1, none⟩ (.slice ar zr.length cr)).setCell ⟨w.heap.size + 2, 2, none⟩ (.int .i64 yr)) ∧ (((w4.setCell ⟨w.heap.size + 2, 0, none⟩ (.bool sr)).setCell ⟨w.heap.size + 2, 1, none⟩ (.slice ar zr.length cr)).setCell ⟨w.heap.size + 2, 2, none⟩ (.int .i64 yr)).frozen? ⟨w.heap.size + 2, 0, none⟩ = false ∧ (((w4.setCell ⟨w.heap.size + 2, 0, none⟩ (.bool sr)).setCell ⟨w.heap.size + 2, 1, none⟩ (.slice ar zr.length cr)).setCell ⟨w.heap.size + 2, 2, none⟩ (.int .i64 yr)).frozen? ⟨w.heap.size + 2, 1, none⟩ = false ∧ (((w4.setCell ⟨w.heap.size + 2, 0, none⟩ (.bool sr)).setCell ⟨w.heap.size + 2, 1, none⟩ (.slice ar zr.length cr)).setCell ⟨w.heap.size + 2, 2, none⟩ (.int .i64 yr)).frozen? ⟨w.heap.size + 2, 2, none⟩ = false) := ⟨(unhide KY).trans ks, by rw [frozen_set, frozen_set, frozen_set]; exact XF0, by rw [frozen_set, frozen_set, frozen_set]; exact XF1, by rw [frozen_set, frozen_set, frozen_set]; exact XF2⟩
      clear ks Y0 Y1 Y2 hsz hdr KY R4 X0 X1 X2 XF0 XF1 XF2 D0 A1 m0 m1 m2 hw3 hw4 C0
      go_wp2
      go_roundw
      case rel => exact ⟨t + 1, by simp, hltt, BXX, KXX⟩
      case measure => simp [intOf]; omega
    · have htk : t = k := by omega
      subst htk
      obtain ⟨au, cu, x0, x1, x2, rX⟩ := unhide hB
      obtain ⟨⟨GS, GL, GE⟩, hG⟩ : ∃ q, q = nE (psum (trF t ds) t) (-3000) := ⟨_, rfl⟩
      rw [← hG] at x0 x1 x2 rX
      dsimp only at x0 x1 x2 rX
      have HG := hide hG
      have Q0 := (unhide hK).1.cellOut (a := ⟨w.heap.size + 1, 0, none⟩) (by dsimp only; omega) q0
      have Q1 := (unhide hK).1.cellOut (a := ⟨w.heap.size + 1, 1, none⟩) (by dsimp only; omega) q1
      have Q2 := (unhide hK).1.cellOut (a := ⟨w.heap.size + 1, 2, none⟩) (by dsimp only; omega) q2
      have Qf0 := (unhide hK).1.looseOut (a := ⟨w.heap.size + 1, 0, none⟩) (by dsimp only; omega) (World.block_lt_of_cell? _ _ q0) f0
      have Qf1 := (unhide hK).1.looseOut (a := ⟨w.heap.size + 1, 1, none⟩) (by dsimp only; omega) (World.block_lt_of_cell? _ _ q1) f1
      have Qf2 := (unhide hK).1.looseOut (a := ⟨w.heap.size + 1, 2, none⟩) (by dsimp only; omega) (World.block_lt_of_cell? _ _ q2) f2
      have ks : Kept (w.heap.size + 1) (w.heap.size + 2) wr (((wr.setCell ⟨w.heap.size + 1, 0, none⟩ (.bool GS)).setCell ⟨w.heap.size + 1, 1, none⟩ (.slice au GL.length cu)).setCell ⟨w.heap.size + 1, 2, none⟩ (.int .i64 GE)) := (((Kept.refl _ _ _).setCell (p := ⟨w.heap.size + 1, 0, none⟩) (Nat.le_refl _) (Nat.lt_succ_self _) _).setCell (p := ⟨w.heap.size + 1, 1, none⟩) (Nat.le_refl _) (Nat.lt_succ_self _) _).setCell (p := ⟨w.heap.size + 1, 2, none⟩) (Nat.le_refl _) (Nat.lt_succ_self _) _
      have hsz : (((wr.setCell ⟨w.heap.size + 1, 0, none⟩ (.bool GS)).setCell ⟨w.heap.size + 1, 1, none⟩ (.slice au GL.length cu)).setCell ⟨w.heap.size + 1, 2, none⟩ (.int .i64 GE)).heap.size = wr.heap.size := by rw [size_set, size_set, size_set]
      have R7 := hide ((rX.kept ks (by omega)).wider (lo' := w.heap.size) (hi' := (((wr.setCell ⟨w.heap.size + 1, 0, none⟩ (.bool GS)).setCell ⟨w.heap.size + 1, 1, none⟩ (.slice au GL.length cu)).setCell ⟨w.heap.size + 1, 2, none⟩ (.int .i64 GE)).heap.size) (by omega) (by omega))
      have K7 := hide (((unhide K0).wide (unhide hK).1 (by omega)).wide ks (by omega))
      have G0 := cell_off _ _ _ 2 (.int .i64 GE) _ (cell_off _ _ _ 1 (.slice au GL.length cu) _ (cell_on _ _ _ (.bool GS) _ Q0) (show (0 : Nat) ≠ 1 by omega)) (show (0 : Nat) ≠ 2 by omega)
      have G1 := cell_off _ _ _ 2 (.int .i64 GE) _ (cell_on _ _ _ (.slice au GL.length cu) _ (cell_off _ _ _ 0 (.bool GS) _ Q1 (show (1 : Nat) ≠ 0 by omega))) (show (1 : Nat) ≠ 2 by omega)
      have G2 := cell_on _ _ _ (.int .i64 GE) _ (cell_off _ _ _ 1 (.slice au GL.length cu) _ (cell_off _ _ _ 0 (.bool GS) _ Q2 (show (2 : Nat) ≠ 0 by omega)) (show (2 : Nat) ≠ 1 by omega))
      clear hB hK rX ks hsz hG sW
      go_wp2
      exact bodyPost_ret (v := .agg #[.bool GS, .slice au GL.length cu, .int .i64 GE]) (by simp [results, Tryz.results26, go_sem, G0, G1, G2]) rfl ⟨_, by rw [← unhide HG], by rw [← unhide HG]; exact unhide R7, unhide K7⟩

set_option maxHeartbeats 8000000 in
theorem matTrace_spec {lo hi : Nat} {v : Value} {ds : List DE} (n : Int) (w : World) (hw : WfD ds) (r : Dys lo hi w v ds) :
    Calls Tryz.prog 8 #[.agg #[.int .i64 n, v]] w fun e w' => ∃ v', e = .returned (.tuple #[.agg #[.bool (ansDS (mokB n ds) (trV n ds) (-3000)), v', .int .i64 (ansDE (mokB n ds) (trV n ds) (-3000))], .bool (ansDB (mokB n ds) (trV n ds) (-3000))]) ∧ Row .i64 true w.heap.size w'.heap.size w' v' (ansDL (mokB n ds) (trV n ds) (-3000)) ∧ Kept 0 0 w w' := by
  obtain ⟨W, hW⟩ : ∃ W, W = (w.alloc (.cells #[.int .i64 n, v] 37)).alloc (.cells #[.bool false, .slice none 0 0, .int .i64 0] 32) := ⟨_, rfl⟩
  have k0 : Kept 0 0 w W := by rw [hW]; exact ((Kept.refl 0 0 w).alloc _).alloc _
  have c0 : W.cell? ⟨w.heap.size, 0, none⟩ = some (.int .i64 n) := by rw [hW]; exact old_cell _ (new_cell2 _ _ _ _ _ _ (by simp) rfl)
  have c1 : W.cell? ⟨w.heap.size, 1, none⟩ = some v := by rw [hW]; exact old_cell _ (new_cell2 _ _ _ _ _ _ (by simp) rfl)
  have q0 : W.cell? ⟨w.heap.size + 1, 0, none⟩ = some (.bool false) := by rw [hW]; exact new_cell2 _ _ _ _ _ _ (by simp) rfl
  have f0 : W.frozen? ⟨w.heap.size + 1, 0, none⟩ = false := by rw [hW]; exact new_loose2 _ _ _ _ _ (by simp)
  have q1 : W.cell? ⟨w.heap.size + 1, 1, none⟩ = some (.slice none 0 0) := by rw [hW]; exact new_cell2 _ _ _ _ _ _ (by simp) rfl
  have f1 : W.frozen? ⟨w.heap.size + 1, 1, none⟩ = false := by rw [hW]; exact new_loose2 _ _ _ _ _ (by simp)
  have q2 : W.cell? ⟨w.heap.size + 1, 2, none⟩ = some (.int .i64 0) := by rw [hW]; exact new_cell2 _ _ _ _ _ _ (by simp) rfl
  have f2 : W.frozen? ⟨w.heap.size + 1, 2, none⟩ = false := by rw [hW]; exact new_loose2 _ _ _ _ _ (by simp)
  have sW : W.heap.size = w.heap.size + 2 := by rw [hW]; simp
  have r0 := r.kept k0 (by omega)
  have ho := matOk_spec n W hw r0
  obtain ⟨a, c, rfl, -, -⟩ := r.form
  rw [hW] at ho
  clear r
  go_enter Tryz.func8, Tryz.ntmps8
  go_wp2_with fail
  rw [← hW] at ho ⊢
  clear hW
  refine ho.mono ?_
  rintro e w1 ⟨rfl, k1⟩
  replace f0 := k1.loose0 (World.block_lt_of_cell? _ _ q0) f0
  replace f1 := k1.loose0 (World.block_lt_of_cell? _ _ q1) f1
  replace f2 := k1.loose0 (World.block_lt_of_cell? _ _ q2) f2
  replace c0 := k1.cell0 c0
  replace c1 := k1.cell0 c1
  replace q0 := k1.cell0 q0
  replace q1 := k1.cell0 q1
  replace q2 := k1.cell0 q2
  replace r0 := r0.kept k1 (by omega)
  have K1 := hide (k0.trans k1)
  have z1 := k1.size
  clear ho k0 k1
  cases hk : mokB n ds
  · have K7 := hide ((((unhide K1).setNew (p := ⟨w.heap.size + 1, 0, none⟩) (by simp) (.bool false)).setNew (p := ⟨w.heap.size + 1, 1, none⟩) (by simp) (.slice none 0 0)).setNew (p := ⟨w.heap.size + 1, 2, none⟩) (by simp) (.int .i64 0))
    have HB := hide hk
    clear r0 K1 hk
    go_wp2
    exact bodyPost_ret (v := .tuple #[.agg #[.bool false, .slice none 0 0, .int .i64 0], .bool false]) (by simp [results, Tryz.results8, go_sem, q0, q1, q2]) rfl ⟨.slice none 0 0, by rw [unhide HB]; rfl, by rw [unhide HB]; exact Row.nil _ _ _ _ _, unhide K7⟩
  obtain ⟨u1, u2, u3, U⟩ := mok_partsA hk
  obtain ⟨k, rfl⟩ := Int.eq_ofNat_of_zero_le (show 0 ≤ n by omega)
  have hlen : ds.length = k * k := by rw [← Int.natCast_mul] at u3; omega
  have hU : ∀ p, p < k * k → dOkE (ds.getD p de0) = true := fun p hp => U p (by omega)
  have htr := trace8_spec w1 (show 0 < k by omega) (show k ≤ 4 by omega) hlen hU r0
  obtain ⟨V, hV⟩ : ∃ V, V = psum (trF k ds) k := ⟨_, rfl⟩
  have hVl : V.natAbs < 2 ^ AA := by rw [hV]; exact trS_lt (by omega) (Nat.le_refl _) hU
  have rg := dex_range V (-3000) (by decide) (by decide) hVl (by unfold AA; decide)
  obtain ⟨y1, y2, y3, y4⟩ := fits_ans (c := true) rfl V (-3000)
  obtain ⟨GB, hGB⟩ : ∃ y, ansDB true V (-3000) = y := ⟨_, rfl⟩
  obtain ⟨GS, hGS⟩ : ∃ y, ansDS true V (-3000) = y := ⟨_, rfl⟩
  obtain ⟨GL, hGL⟩ : ∃ y, ansDL true V (-3000) = y := ⟨_, rfl⟩
  obtain ⟨GE, hGE⟩ : ∃ y, ansDE true V (-3000) = y := ⟨_, rfl⟩
  have hft : ∀ v' w' lo', Row .i64 true lo' w'.heap.size w' v' (dlm V) → Calls Tryz.prog 25 #[.agg #[.bool (wsg V), v', .int .i64 (dex V (-3000))]] w' fun e w'' => ∃ v'', e = .returned (.tuple #[.agg #[.bool GS, v'', .int .i64 GE], .bool GB]) ∧ Row .i64 true lo' w''.heap.size w'' v'' GL ∧ Kept 0 0 w' w'' := fun v' w' lo' r' => by
    have := fits4_spec (wsg V) (dex V (-3000)) rg.1 rg.2 w' r'
    rw [y4, y1, y2, y3, hGB, hGS, hGL, hGE] at this
    exact this
  have HG := hide (show ansDB true (trV (k : Int) ds) (-3000) = GB ∧ ansDS true (trV (k : Int) ds) (-3000) = GS ∧ ansDL true (trV (k : Int) ds) (-3000) = GL ∧ ansDE true (trV (k : Int) ds) (-3000) = GE from ⟨by rw [← hGB, hV]; rfl, by rw [← hGS, hV]; rfl, by rw [← hGL, hV]; rfl, by rw [← hGE, hV]; rfl⟩)
  rw [← hV] at htr
  have htr' : Calls Tryz.prog 26 #[.agg #[.int .i64 (k : Int), .slice a ds.length c]] w1 fun e w' => ∃ v', e = .returned (.agg #[.bool (wsg V), v', .int .i64 (dex V (-3000))]) ∧ Row .i64 true w1.heap.size w'.heap.size w' v' (dlm V) ∧ Kept 0 0 w1 w' := htr
  have HB := hide hk
  have HFT := hide hft
  obtain ⟨SV, hSV⟩ : ∃ q, q = wsg V := ⟨_, rfl⟩
  obtain ⟨ZV, hZV⟩ : ∃ q, q = dlm V := ⟨_, rfl⟩
  obtain ⟨XV, hXV⟩ : ∃ q, q = dex V (-3000) := ⟨_, rfl⟩
  rw [← hSV, ← hZV, ← hXV] at HFT htr'
  clear u1 u2 u3 U hlen hU hk r0 hw htr hV hVl rg y1 y2 y3 y4 hGB hGS hGL hGE hft hSV hZV hXV
  go_wp2_with fail
  refine htr'.mono ?_
  rintro e w3 ⟨v3, rfl, r3, k3⟩
  have hft := unhide HFT v3 w3 _ r3
  obtain ⟨a3, d3, hv3⟩ := Row.form' r3
  subst hv3
  replace f0 := k3.loose0 (World.block_lt_of_cell? _ _ q0) f0
  replace f1 := k3.loose0 (World.block_lt_of_cell? _ _ q1) f1
  replace f2 := k3.loose0 (World.block_lt_of_cell? _ _ q2) f2
  replace q0 := k3.cell0 q0
  replace q1 := k3.cell0 q1
  replace q2 := k3.cell0 q2
  have K3 := hide ((unhide K1).trans k3)
  have z3 := k3.size
  clear htr' r3 k3 K1 c0 c1 HFT
  go_wp2_with fail
  refine hft.mono ?_
  rintro e w6 ⟨v6, rfl, r6, k6⟩
  obtain ⟨a6, d6, hv6⟩ := Row.form' r6
  subst hv6
  replace f0 := k6.loose0 (World.block_lt_of_cell? _ _ q0) f0
  replace f1 := k6.loose0 (World.block_lt_of_cell? _ _ q1) f1
  replace f2 := k6.loose0 (World.block_lt_of_cell? _ _ q2) f2
  replace q0 := k6.cell0 q0
  replace q1 := k6.cell0 q1
  replace q2 := k6.cell0 q2
  have z6 := k6.size
  have K6 := (unhide K3).trans k6
  have R7 := hide ((((r6.set_other (p := ⟨w.heap.size + 1, 0, none⟩) (.inl (by dsimp only; omega)) (.bool GS)).set_other (p := ⟨w.heap.size + 1, 1, none⟩) (.inl (by dsimp only; omega)) (.slice a6 GL.length d6)).set_other (p := ⟨w.heap.size + 1, 2, none⟩) (.inl (by dsimp only; omega)) (.int .i64 GE)).tight.wider (lo' := w.heap.size) (by omega) (Nat.le_refl _))
  have K7 := hide (((K6.setNew (p := ⟨w.heap.size + 1, 0, none⟩) (by simp) (.bool GS)).setNew (p := ⟨w.heap.size + 1, 1, none⟩) (by simp) (.slice a6 GL.length d6)).setNew (p := ⟨w.heap.size + 1, 2, none⟩) (by simp) (.int .i64 GE))
  clear hft r6 k6 K3 K6
  go_wp2
  exact bodyPost_ret (v := .tuple #[.agg #[.bool GS, .slice a6 GL.length d6, .int .i64 GE], .bool GB]) (by simp [results, Tryz.results8, go_sem, q0, q1, q2]) rfl ⟨_, by rw [unhide HB, (unhide HG).1, (unhide HG).2.1, (unhide HG).2.2.2], by rw [unhide HB, (unhide HG).2.2.1]; exact unhide R7, unhide K7⟩

end Go.Proofs.YtagaofpkfpfilaaGreatDoor
