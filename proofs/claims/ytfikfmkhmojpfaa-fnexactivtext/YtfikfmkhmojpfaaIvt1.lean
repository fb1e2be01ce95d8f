/-
  The model's text of an interval.
-/
import Derived.Test.YtfikfmkhmojpfaaLst2
import Derived.Deep.RegionHeld3
import Derived.Deep.DeepCutAuto
namespace Go.Proofs.Ytfikfmkhmojpfaa
open Go.RowKit
set_option linter.unusedVariables false
set_option maxRecDepth 8000
set_option linter.unusedSimpArgs false

/-- What is left of a region, under a name. -/
theorem ds_cap {P : Program} {md : Region.Mode} {ops : Array Oper} {Q : Exit → Act → World → Prop} {S : World → Prop} {n : Nat} {l : Array Bool} {a : Act} {w : World}
    (h : ∀ G : Nat → Array Bool → Act → World → Prop, (∀ f l a w, G f l a w = wpAnyH P md ops Q S f l a w) → G n l a w) : wpAnyH P md ops Q S n l a w := h _ (fun _ _ _ _ => rfl)
theorem own_some8 {w : World} {base n : Nat} {e : TypeId} {v : Value} {xs : List Value} (h0 : 0 < n) (h : w.ownsRow base e 1 v n xs) : ∃ g c, v = .slice (some ⟨g, 0, none⟩) n c := by
  rcases h.2 with ⟨_, hn⟩ | ⟨g, cap, cur, hv, _⟩
  · omega
  · exact ⟨g, cap, hv⟩

set_option maxHeartbeats 16000000 in
theorem l12iv_spec {b0 b1 : Bool} {lo0 hi0 lo1 hi1 : Nat} {u0 u1 : Value} {z0 z1 : List Int} (s0 s1 : Bool) (y0 y1 : Int) (wS : World) (r0 : Row .i64 b0 lo0 hi0 wS u0 z0) (r1 : Row .i64 b1 lo1 hi1 wS u1 z1) (t0 : tB (s0, z0, y0) = true) (t1 : tB (s1, z1, y1) = true) :
    Calls Try.prog 51 #[.agg #[.bool s0, u0, .int .i64 y0, .bool s1, u1, .int .i64 y1]] wS fun e w' => ∃ v', e = .returned v' ∧ Row .u8 true wS.heap.size w'.heap.size w' v' (60 :: (jT [32] (ltF [(s0, z0, y0), (s1, z1, y1)]) 2 ++ [62])) ∧ Kept 0 0 wS w' := by
  obtain ⟨qa0, qc0, hv0⟩ := Row.form' r0
  subst hv0
  obtain ⟨qa1, qc1, hv1⟩ := Row.form' r1
  subst hv1
  have k0 : Kept 0 0 wS (wS.alloc (.cells #[.bool s0, .slice qa0 z0.length qc0, .int .i64 y0, .bool s1, .slice qa1 z1.length qc1, .int .i64 y1] 57)) := (Kept.refl 0 0 wS).alloc _
  have p0 : (wS.alloc (.cells #[.bool s0, .slice qa0 z0.length qc0, .int .i64 y0, .bool s1, .slice qa1 z1.length qc1, .int .i64 y1] 57)).cell? ⟨wS.heap.size, 0, none⟩ = some (.bool s0) := new_cell2 _ _ _ _ _ _ rfl rfl
  have p1 : (wS.alloc (.cells #[.bool s0, .slice qa0 z0.length qc0, .int .i64 y0, .bool s1, .slice qa1 z1.length qc1, .int .i64 y1] 57)).cell? ⟨wS.heap.size, 1, none⟩ = some (.slice qa0 z0.length qc0) := new_cell2 _ _ _ _ _ _ rfl rfl
  have p2 : (wS.alloc (.cells #[.bool s0, .slice qa0 z0.length qc0, .int .i64 y0, .bool s1, .slice qa1 z1.length qc1, .int .i64 y1] 57)).cell? ⟨wS.heap.size, 2, none⟩ = some (.int .i64 y0) := new_cell2 _ _ _ _ _ _ rfl rfl
  have p3 : (wS.alloc (.cells #[.bool s0, .slice qa0 z0.length qc0, .int .i64 y0, .bool s1, .slice qa1 z1.length qc1, .int .i64 y1] 57)).cell? ⟨wS.heap.size, 3, none⟩ = some (.bool s1) := new_cell2 _ _ _ _ _ _ rfl rfl
  have p4 : (wS.alloc (.cells #[.bool s0, .slice qa0 z0.length qc0, .int .i64 y0, .bool s1, .slice qa1 z1.length qc1, .int .i64 y1] 57)).cell? ⟨wS.heap.size, 4, none⟩ = some (.slice qa1 z1.length qc1) := new_cell2 _ _ _ _ _ _ rfl rfl
  have p5 : (wS.alloc (.cells #[.bool s0, .slice qa0 z0.length qc0, .int .i64 y0, .bool s1, .slice qa1 z1.length qc1, .int .i64 y1] 57)).cell? ⟨wS.heap.size, 5, none⟩ = some (.int .i64 y1) := new_cell2 _ _ _ _ _ _ rfl rfl
  have hy0 := tT_yes (d := (s0, z0, y0)) t0
  have hy1 := tT_yes (d := (s1, z1, y1)) t1
  obtain ⟨T0, hT0⟩ : ∃ T, sgnT s0 (dszT (val z0).toNat y0) = T := ⟨_, rfl⟩
  obtain ⟨T1, hT1⟩ : ∃ T, sgnT s1 (dszT (val z1).toNat y1) = T := ⟨_, rfl⟩
  have e0 : tT (s0, z0, y0) = T0 := hy0.1.trans hT0
  have e1 : tT (s1, z1, y1) = T1 := hy1.1.trans hT1
  obtain ⟨S1, hS1⟩ : ∃ S, S = ([60] : List Int) ++ T0 := ⟨_, rfl⟩
  obtain ⟨S2, hS2⟩ : ∃ S, S = S1 ++ ([32] : List Int) := ⟨_, rfl⟩
  obtain ⟨S3, hS3⟩ : ∃ S, S = S2 ++ T1 := ⟨_, rfl⟩
  obtain ⟨S4, hS4⟩ : ∃ S, S = S3 ++ ([62] : List Int) := ⟨_, rfl⟩
  have lt0 := tT_len (s0, z0, y0)
  have lt1 := tT_len (s1, z1, y1)
  rw [e0] at lt0
  rw [e1] at lt1
  skip
  have ls1 : S1.length = 1 + T0.length := by rw [hS1, List.length_append]; try rfl
  have ls2 : S2.length = S1.length + 1 := by rw [hS2, List.length_append]; try rfl
  have ls3 : S3.length = S2.length + T1.length := by rw [hS3, List.length_append]; try rfl
  have ls4 : S4.length = S3.length + 1 := by rw [hS4, List.length_append]; try rfl
  have NE0 : Hid (T0 ≠ []) := by (show _ ≠ _; rw [← e0]; exact tT_ne t0)
  have NE1 : Hid (T1 ≠ []) := by (show _ ≠ _; rw [← e1]; exact tT_ne t1)
  have NE5 : Hid (([32] : List Int) ≠ []) := by (show _ ≠ _; simp)
  have NE11 : Hid (([62] : List Int) ≠ []) := by (show _ ≠ _; simp)
  have LS1 : Hid (S1.length ≤ 2000000) := by (show _ ≤ _; omega)
  have LS2 : Hid (S2.length ≤ 2000000) := by (show _ ≤ _; omega)
  have LS3 : Hid (S3.length ≤ 2000000) := by (show _ ≤ _; omega)
  have LS4 : Hid (S4.length ≤ 2000000) := by (show _ ≤ _; omega)
  have LT0 : Hid (T0.length ≤ 2000000) := by (show _ ≤ _; omega)
  have LT1 : Hid (T1.length ≤ 2000000) := by (show _ ≤ _; omega)
  have LS0 : Hid (([60] : List Int).length ≤ 2000000) := by (show _ ≤ _; decide)
  have LB5 : Hid (([32] : List Int).length ≤ 2000000) := by (show _ ≤ _; decide)
  have LB11 : Hid (([62] : List Int).length ≤ 2000000) := by (show _ ≤ _; decide)
  have PS1 : Hid (0 < S1.length) := by (show _ < _; omega)
  have PS2 : Hid (0 < S2.length) := by (show _ < _; omega)
  have PS3 : Hid (0 < S3.length) := by (show _ < _; omega)
  have PS4 : Hid (0 < S4.length) := by (show _ < _; omega)
  have ES1 := hide hS1
  have ES2 := hide hS2
  have ES3 := hide hS3
  have ES4 := hide hS4
  have hfin : Hid (S4 = 60 :: (jT [32] (ltF [(s0, z0, y0), (s1, z1, y1)]) 2 ++ [62])) := by
    show _ = _
    have f0 : ltF [(s0, z0, y0), (s1, z1, y1)] 0 = T0 := e0
    have f1 : ltF [(s0, z0, y0), (s1, z1, y1)] 1 = T1 := e1
    rw [hS4, hS3, hS2, hS1]
    simp [jT, f0, f1]
  rw [← unhide hfin]
  have R0 := hide (r0.kept k0 (by omega))
  have R1 := hide (r1.kept k0 (by omega))
  have sB : Hid ((wS.alloc (.cells #[.bool s0, .slice qa0 z0.length qc0, .int .i64 y0, .bool s1, .slice qa1 z1.length qc1, .int .i64 y1] 57)).heap.size = wS.heap.size + 1) := by (show _ = _; simp)
  have HY0 := hide hy0.2
  have HY1 := hide hy1.2
  have HT0 := hide hT0
  have HT1 := hide hT1
  clear hy0 hy1 hT0 hT1 e0 e1 hS1 hS2 hS3 hS4 lt0 lt1 ls1 ls2 ls3 ls4 r0 r1 hfin t0 t1
  go_enter Try.func51, Try.ntmps51
  go_wp2_with fail
  generalize (wS.alloc (.cells #[.bool s0, .slice qa0 z0.length qc0, .int .i64 y0, .bool s1, .slice qa1 z1.length qc1, .int .i64 y1] 57)) = WB at *
  have kd := (Kept.refl 0 0 WB).drew
  replace p0 := kd.cell0 p0
  replace p1 := kd.cell0 p1
  replace p2 := kd.cell0 p2
  replace p3 := kd.cell0 p3
  replace p4 := kd.cell0 p4
  replace p5 := kd.cell0 p5
  have KW := hide (k0.trans kd)
  replace R0 := hide ((unhide R0).kept kd (by omega))
  replace R1 := hide ((unhide R1).kept kd (by omega))
  have ZW : Hid (wS.heap.size ≤ WB.drew.heap.size) := (unhide KW).size
  clear kd k0
  refine wp_region_held_drew (S := (fun w' => w'.cell? ⟨wS.heap.size, 0, none⟩ = some (.bool s0) ∧ w'.cell? ⟨wS.heap.size, 1, none⟩ = some (.slice qa0 z0.length qc0) ∧ w'.cell? ⟨wS.heap.size, 2, none⟩ = some (.int .i64 y0) ∧ w'.cell? ⟨wS.heap.size, 3, none⟩ = some (.bool s1) ∧ w'.cell? ⟨wS.heap.size, 4, none⟩ = some (.slice qa1 z1.length qc1) ∧ w'.cell? ⟨wS.heap.size, 5, none⟩ = some (.int .i64 y1))) (by kernel_rfl) ?_ (fun hHeld => ?_)
  · exact ⟨p0, p1, p2, p3, p4, p5⟩
  generalize WB.drew = W0 at *
  have H0 : Hid (∀ wx, Kept 0 0 W0 wx → Calls Try.prog 36 #[.agg #[.bool s0, .slice qa0 z0.length qc0, .int .i64 y0]] wx fun e w' => ∃ v', e = .returned v' ∧ Row .u8 true wx.heap.size w'.heap.size w' v' T0 ∧ Kept 0 0 wx w') := fun wx k => by
    rw [← unhide HT0]
    exact l4dec_spec s0 y0 wx ((unhide R0).kept k (by omega)) (unhide HY0).1 (unhide HY0).2.1 (unhide HY0).2.2.1 (unhide HY0).2.2.2
  have H1 : Hid (∀ wx, Kept 0 0 W0 wx → Calls Try.prog 36 #[.agg #[.bool s1, .slice qa1 z1.length qc1, .int .i64 y1]] wx fun e w' => ∃ v', e = .returned v' ∧ Row .u8 true wx.heap.size w'.heap.size w' v' T1 ∧ Kept 0 0 wx w') := fun wx k => by
    rw [← unhide HT1]
    exact l4dec_spec s1 y1 wx ((unhide R1).kept k (by omega)) (unhide HY1).1 (unhide HY1).2.1 (unhide HY1).2.2.1 (unhide HY1).2.2.2
  refine wpAnyH_take (i := 1) (oi := _) (v := .pointer (some ⟨wS.heap.size, 0, none⟩)) rfl (by kernel_rfl) (by kernel_rfl) (by kernel_rfl) (fun _ _ _ h => h) (Or.inl ⟨by rfl, ?_⟩) hHeld ?_
  · intro wq hSw
    try dsimp only at hSw
    go_simp
  try simp only [Act.put, List.getElem_toArray, List.getElem_cons_succ, List.getElem_cons_zero, List.setIfInBounds_toArray, List.set_cons_zero, List.set_cons_succ]
  refine wpAnyH_take (i := 2) (oi := _) (v := .agg #[.bool s0, .slice qa0 z0.length qc0, .int .i64 y0]) rfl (by kernel_rfl) (by kernel_rfl) (by kernel_rfl) (fun _ _ _ h => h) (Or.inl ⟨by rfl, ?_⟩) hHeld ?_
  · intro wq hSw
    try dsimp only at hSw
    go_simp
  try simp only [Act.put, List.getElem_toArray, List.getElem_cons_succ, List.getElem_cons_zero, List.setIfInBounds_toArray, List.set_cons_zero, List.set_cons_succ]
  refine wpAnyH_take (i := 7) (oi := _) (v := .pointer (some ⟨wS.heap.size, 3, none⟩)) rfl (by kernel_rfl) (by kernel_rfl) (by kernel_rfl) (fun _ _ _ h => h) (Or.inl ⟨by rfl, ?_⟩) hHeld ?_
  · intro wq hSw
    try dsimp only at hSw
    go_simp
  try simp only [Act.put, List.getElem_toArray, List.getElem_cons_succ, List.getElem_cons_zero, List.setIfInBounds_toArray, List.set_cons_zero, List.set_cons_succ]
  refine wpAnyH_take (i := 8) (oi := _) (v := .agg #[.bool s1, .slice qa1 z1.length qc1, .int .i64 y1]) rfl (by kernel_rfl) (by kernel_rfl) (by kernel_rfl) (fun _ _ _ h => h) (Or.inl ⟨by rfl, ?_⟩) hHeld ?_
  · intro wq hSw
    try dsimp only at hSw
    go_simp
  try simp only [Act.put, List.getElem_toArray, List.getElem_cons_succ, List.getElem_cons_zero, List.setIfInBounds_toArray, List.set_cons_zero, List.set_cons_succ]
  clear hHeld R0 R1 HY0 HY1 HT0 HT1 sB
  refine ds_cap (fun G hG => ?_)
  have s_b0_c1_a1_b5_a2_c2_a3_b11_a4 : ∀ (w : World) (ub0 : Value) (uc1 : Value) (ua1 : Value) (ub5 : Value) (ua2 : Value) (uc2 : Value) (ua3 : Value) (ub11 : Value) (ga4 ca4 : Nat) (K : Hid (Kept 0 0 W0 w)) (Fa4 : Hid (w.ownsRow W0.heap.size 5 1 (.slice (some ⟨ga4, 0, none⟩) S4.length ca4) S4.length (S4.map (Value.int .u8)) ∧ ga4 < w.heap.size)), G 1 #[true, true, true, true, true, true, true, true, true, true, true, true, true, false] { tmps := #[.agg #[.bool s0, .slice qa0 z0.length qc0, .int .i64 y0, .bool s1, .slice qa1 z1.length qc1, .int .i64 y1], .pointer (some ⟨wS.heap.size, 0, none⟩), .slice none 0 0, ub0, .pointer (some ⟨wS.heap.size, 0, none⟩), .agg #[.bool s0, .slice qa0 z0.length qc0, .int .i64 y0], uc1, ua1, ub5, ua2, .pointer (some ⟨wS.heap.size, 3, none⟩), .agg #[.bool s1, .slice qa1 z1.length qc1, .int .i64 y1], uc2, ua3, ub11, .slice (some ⟨ga4, 0, none⟩) S4.length ca4], defers := [] } w := by
    intro w ub0 uc1 ua1 ub5 ua2 uc2 ua3 ub11 ga4 ca4 K Fa4
    refine Eq.mpr (hG _ _ _ _) ?_
    have hHeld : (fun w' => w'.cell? ⟨wS.heap.size, 0, none⟩ = some (.bool s0) ∧ w'.cell? ⟨wS.heap.size, 1, none⟩ = some (.slice qa0 z0.length qc0) ∧ w'.cell? ⟨wS.heap.size, 2, none⟩ = some (.int .i64 y0) ∧ w'.cell? ⟨wS.heap.size, 3, none⟩ = some (.bool s1) ∧ w'.cell? ⟨wS.heap.size, 4, none⟩ = some (.slice qa1 z1.length qc1) ∧ w'.cell? ⟨wS.heap.size, 5, none⟩ = some (.int .i64 y1)) w := ⟨(unhide K).cell0 p0, (unhide K).cell0 p1, (unhide K).cell0 p2, (unhide K).cell0 p3, (unhide K).cell0 p4, (unhide K).cell0 p5⟩
    refine wpAnyH_take (i := 13) (oi := _) (v := .slice (some ⟨ga4, 0, none⟩) S4.length ca4) rfl (by kernel_rfl) (by kernel_rfl) (by kernel_rfl) (fun _ _ _ h => h) (Or.inl ⟨by rfl, ?_⟩) hHeld ?_
    · intro wq hSw
      try dsimp only at hSw
      go_simp
    try simp only [Act.put, List.getElem_toArray, List.getElem_cons_succ, List.getElem_cons_zero, List.setIfInBounds_toArray, List.set_cons_zero, List.set_cons_succ]
    refine wpAnyH_done (by kernel_rfl) ?_ _
    clear hHeld
    have RF := hide ((Row.own (unhide Fa4).1).wider (lo' := wS.heap.size) (unhide ZW) (Nat.le_refl _))
    have KF := hide ((unhide KW).trans (unhide K))
    clear Fa4 K
    go_wp2
    go_ret
    exact ⟨_, rfl, unhide RF, unhide KF⟩
  have s_b0_c1_a1_b5_a2_c2_a3_b11 : ∀ (w : World) (ub0 : Value) (uc1 : Value) (ua1 : Value) (ub5 : Value) (ua2 : Value) (uc2 : Value) (ga3 ca3 : Nat) (ab11 : Option Addr) (cb11 gb11 : Nat) (K : Hid (Kept 0 0 W0 w)) (Fa3 : Hid (w.ownsRow W0.heap.size 5 1 (.slice (some ⟨ga3, 0, none⟩) S3.length ca3) S3.length (S3.map (Value.int .u8)) ∧ ga3 < w.heap.size)) (Fb11 : Hid (Row .u8 true gb11 (gb11 + 1) w (.slice ab11 1 cb11) ([62] : List Int) ∧ gb11 < w.heap.size)) (Nb11 : Hid (gb11 ≠ ga3)), G 2 #[true, true, true, true, true, true, true, true, true, true, true, true, false, false] { tmps := #[.agg #[.bool s0, .slice qa0 z0.length qc0, .int .i64 y0, .bool s1, .slice qa1 z1.length qc1, .int .i64 y1], .pointer (some ⟨wS.heap.size, 0, none⟩), .slice none 0 0, ub0, .pointer (some ⟨wS.heap.size, 0, none⟩), .agg #[.bool s0, .slice qa0 z0.length qc0, .int .i64 y0], uc1, ua1, ub5, ua2, .pointer (some ⟨wS.heap.size, 3, none⟩), .agg #[.bool s1, .slice qa1 z1.length qc1, .int .i64 y1], uc2, .slice (some ⟨ga3, 0, none⟩) S3.length ca3, .slice ab11 1 cb11, undef], defers := [] } w := by
    intro w ub0 uc1 ua1 ub5 ua2 uc2 ga3 ca3 ab11 cb11 gb11 K Fa3 Fb11 Nb11
    refine Eq.mpr (hG _ _ _ _) ?_
    refine wpAnyH_ready (rs := [12]) (by kernel_rfl) (by simp) ?_
    refine AllReadyH.cons rfl (fun KK hK => ?_) AllReadyH.nil
    · simp only [List.getElem_toArray, List.getElem_cons_succ, List.getElem_cons_zero]
      rw [if_pos (by rfl)]
      have ow := unhide Fa3
      have rr := unhide Fb11
      refine wp_cat (v1 := .slice (some ⟨ga3, 0, none⟩) S3.length ca3) (v2 := .slice ab11 1 cb11) _ _ rfl rfl rfl (zs := S3) (ts := ([62] : List Int)) (b := W0.heap.size) ow.1 rr.1 (unhide NE11) (unhide K).size (unhide LS3) (unhide LB11) ?_
      intro v2 w2 o2 g2 e2
      rw [← unhide ES4] at o2
      obtain ⟨gn, cn, hv2⟩ := own_some8 (unhide PS4) o2
      subst hv2
      have hgn : gn = ga3 ∨ gn = w.heap.size := e2.imp (fun e => Option.some.inj e) (fun e => Option.some.inj e)
      have K2 := hide ((unhide K).growNew g2 (fun q hq => (ow.1.lt q hq).1))
      have nf : Hid (w2.ownsRow W0.heap.size 5 1 (.slice (some ⟨gn, 0, none⟩) S4.length cn) S4.length (S4.map (Value.int .u8)) ∧ gn < w2.heap.size) := ⟨o2, (o2.lt gn rfl).2⟩
      refine hK.out _ _ ?_ (fun hHeld => ?_)
      · exact ⟨(unhide K2).cell0 p0, (unhide K2).cell0 p1, (unhide K2).cell0 p2, (unhide K2).cell0 p3, (unhide K2).cell0 p4, (unhide K2).cell0 p5⟩
      clear hHeld hK KK
      exact Eq.mp (hG _ _ _ _) (s_b0_c1_a1_b5_a2_c2_a3_b11_a4 w2 ub0 uc1 ua1 ub5 ua2 uc2 (.slice (some ⟨ga3, 0, none⟩) S3.length ca3) (.slice ab11 1 cb11) gn cn K2 nf)
  have s_b0_c1_a1_b5_a2_c2_a3 : ∀ (w : World) (ub0 : Value) (uc1 : Value) (ua1 : Value) (ub5 : Value) (ua2 : Value) (uc2 : Value) (ga3 ca3 : Nat) (K : Hid (Kept 0 0 W0 w)) (Fa3 : Hid (w.ownsRow W0.heap.size 5 1 (.slice (some ⟨ga3, 0, none⟩) S3.length ca3) S3.length (S3.map (Value.int .u8)) ∧ ga3 < w.heap.size)), G 3 #[true, true, true, true, true, true, true, true, true, true, true, false, false, false] { tmps := #[.agg #[.bool s0, .slice qa0 z0.length qc0, .int .i64 y0, .bool s1, .slice qa1 z1.length qc1, .int .i64 y1], .pointer (some ⟨wS.heap.size, 0, none⟩), .slice none 0 0, ub0, .pointer (some ⟨wS.heap.size, 0, none⟩), .agg #[.bool s0, .slice qa0 z0.length qc0, .int .i64 y0], uc1, ua1, ub5, ua2, .pointer (some ⟨wS.heap.size, 3, none⟩), .agg #[.bool s1, .slice qa1 z1.length qc1, .int .i64 y1], uc2, .slice (some ⟨ga3, 0, none⟩) S3.length ca3, undef, undef], defers := [] } w := by
    intro w ub0 uc1 ua1 ub5 ua2 uc2 ga3 ca3 K Fa3
    refine Eq.mpr (hG _ _ _ _) ?_
    refine wpAnyH_ready (rs := [11]) (by kernel_rfl) (by simp) ?_
    refine AllReadyH.cons rfl (fun KK hK => ?_) AllReadyH.nil
    · simp only [List.getElem_toArray, List.getElem_cons_succ, List.getElem_cons_zero]
      rw [if_pos (by rfl)]
      go_simp
      have kk := (Kept.refl 0 0 w).alloc (.cells #[.int .u8 62] 5)
      have nf : Hid (Row .u8 true w.heap.size (w.heap.size + 1) (w.alloc (.cells #[.int .u8 62] 5)) (.slice (some ⟨w.heap.size, 0, none⟩) 1 1) ([62] : List Int) ∧ w.heap.size < (w.alloc (.cells #[.int .u8 62] 5)).heap.size) := by
        refine ⟨?_, by simp⟩
        exact (Row.own (own_lit .u8 w 5 w.heap.size (Nat.le_refl _) [62] (by simp [maxLen]))).wider (Nat.le_refl _) (by simp)
      refine hK.out _ _ ?_ (fun hHeld => ?_)
      · exact ⟨(unhide (hide ((unhide K).trans kk))).cell0 p0, (unhide (hide ((unhide K).trans kk))).cell0 p1, (unhide (hide ((unhide K).trans kk))).cell0 p2, (unhide (hide ((unhide K).trans kk))).cell0 p3, (unhide (hide ((unhide K).trans kk))).cell0 p4, (unhide (hide ((unhide K).trans kk))).cell0 p5⟩
      clear hHeld hK KK
      exact Eq.mp (hG _ _ _ _) (s_b0_c1_a1_b5_a2_c2_a3_b11 ((w.alloc (.cells #[.int .u8 62] 5))) ub0 uc1 ua1 ub5 ua2 uc2 ga3 ca3 ((some ⟨w.heap.size, 0, none⟩)) 1 (w.heap.size) (hide ((unhide K).trans kk)) (⟨own_kept (unhide Fa3).1 kk, Nat.lt_of_lt_of_le (unhide Fa3).2 kk.size⟩) nf (fun e => by have := (unhide Fa3).2; have := Nat.le_refl w.heap.size; omega))
  have s_b0_c1_a1_b5_a2_c2_b11 : ∀ (w : World) (ub0 : Value) (uc1 : Value) (ua1 : Value) (ub5 : Value) (ga2 ca2 : Nat) (ac2 : Option Addr) (cc2 gc2 : Nat) (ab11 : Option Addr) (cb11 gb11 : Nat) (K : Hid (Kept 0 0 W0 w)) (Fa2 : Hid (w.ownsRow W0.heap.size 5 1 (.slice (some ⟨ga2, 0, none⟩) S2.length ca2) S2.length (S2.map (Value.int .u8)) ∧ ga2 < w.heap.size)) (Fc2 : Hid (Row .u8 true gc2 (gc2 + 1) w (.slice ac2 T1.length cc2) T1 ∧ gc2 < w.heap.size)) (Fb11 : Hid (Row .u8 true gb11 (gb11 + 1) w (.slice ab11 1 cb11) ([62] : List Int) ∧ gb11 < w.heap.size)) (Nc2 : Hid (gc2 ≠ ga2)) (Nb11 : Hid (gb11 ≠ ga2)), G 3 #[true, true, true, true, true, true, true, true, true, true, false, true, false, false] { tmps := #[.agg #[.bool s0, .slice qa0 z0.length qc0, .int .i64 y0, .bool s1, .slice qa1 z1.length qc1, .int .i64 y1], .pointer (some ⟨wS.heap.size, 0, none⟩), .slice none 0 0, ub0, .pointer (some ⟨wS.heap.size, 0, none⟩), .agg #[.bool s0, .slice qa0 z0.length qc0, .int .i64 y0], uc1, ua1, ub5, .slice (some ⟨ga2, 0, none⟩) S2.length ca2, .pointer (some ⟨wS.heap.size, 3, none⟩), .agg #[.bool s1, .slice qa1 z1.length qc1, .int .i64 y1], .slice ac2 T1.length cc2, undef, .slice ab11 1 cb11, undef], defers := [] } w := by
    intro w ub0 uc1 ua1 ub5 ga2 ca2 ac2 cc2 gc2 ab11 cb11 gb11 K Fa2 Fc2 Fb11 Nc2 Nb11
    refine Eq.mpr (hG _ _ _ _) ?_
    refine wpAnyH_ready (rs := [10]) (by kernel_rfl) (by simp) ?_
    refine AllReadyH.cons rfl (fun KK hK => ?_) AllReadyH.nil
    · simp only [List.getElem_toArray, List.getElem_cons_succ, List.getElem_cons_zero]
      rw [if_pos (by rfl)]
      have ow := unhide Fa2
      have rr := unhide Fc2
      refine wp_cat (v1 := .slice (some ⟨ga2, 0, none⟩) S2.length ca2) (v2 := .slice ac2 T1.length cc2) _ _ rfl rfl rfl (zs := S2) (ts := T1) (b := W0.heap.size) ow.1 rr.1 (unhide NE1) (unhide K).size (unhide LS2) (unhide LT1) ?_
      intro v2 w2 o2 g2 e2
      rw [← unhide ES3] at o2
      obtain ⟨gn, cn, hv2⟩ := own_some8 (unhide PS3) o2
      subst hv2
      have hgn : gn = ga2 ∨ gn = w.heap.size := e2.imp (fun e => Option.some.inj e) (fun e => Option.some.inj e)
      have K2 := hide ((unhide K).growNew g2 (fun q hq => (ow.1.lt q hq).1))
      have nf : Hid (w2.ownsRow W0.heap.size 5 1 (.slice (some ⟨gn, 0, none⟩) S3.length cn) S3.length (S3.map (Value.int .u8)) ∧ gn < w2.heap.size) := ⟨o2, (o2.lt gn rfl).2⟩
      refine hK.out _ _ ?_ (fun hHeld => ?_)
      · exact ⟨(unhide K2).cell0 p0, (unhide K2).cell0 p1, (unhide K2).cell0 p2, (unhide K2).cell0 p3, (unhide K2).cell0 p4, (unhide K2).cell0 p5⟩
      clear hHeld hK KK
      exact Eq.mp (hG _ _ _ _) (s_b0_c1_a1_b5_a2_c2_a3_b11 w2 ub0 uc1 ua1 ub5 (.slice (some ⟨ga2, 0, none⟩) S2.length ca2) (.slice ac2 T1.length cc2) gn cn ab11 cb11 gb11 K2 nf (⟨row_apart (unhide Fb11).1 g2 (fun q hq => by have : ga2 = q := Option.some.inj hq; have := unhide Nb11; omega), Nat.lt_of_lt_of_le (unhide Fb11).2 g2.size⟩) (fun e => by have := unhide Nb11; have := (unhide Fb11).2; omega))
  have s_b0_c1_a1_b5_a2_c2 : ∀ (w : World) (ub0 : Value) (uc1 : Value) (ua1 : Value) (ub5 : Value) (ga2 ca2 : Nat) (ac2 : Option Addr) (cc2 gc2 : Nat) (K : Hid (Kept 0 0 W0 w)) (Fa2 : Hid (w.ownsRow W0.heap.size 5 1 (.slice (some ⟨ga2, 0, none⟩) S2.length ca2) S2.length (S2.map (Value.int .u8)) ∧ ga2 < w.heap.size)) (Fc2 : Hid (Row .u8 true gc2 (gc2 + 1) w (.slice ac2 T1.length cc2) T1 ∧ gc2 < w.heap.size)) (Nc2 : Hid (gc2 ≠ ga2)), G 4 #[true, true, true, true, true, true, true, true, true, true, false, false, false, false] { tmps := #[.agg #[.bool s0, .slice qa0 z0.length qc0, .int .i64 y0, .bool s1, .slice qa1 z1.length qc1, .int .i64 y1], .pointer (some ⟨wS.heap.size, 0, none⟩), .slice none 0 0, ub0, .pointer (some ⟨wS.heap.size, 0, none⟩), .agg #[.bool s0, .slice qa0 z0.length qc0, .int .i64 y0], uc1, ua1, ub5, .slice (some ⟨ga2, 0, none⟩) S2.length ca2, .pointer (some ⟨wS.heap.size, 3, none⟩), .agg #[.bool s1, .slice qa1 z1.length qc1, .int .i64 y1], .slice ac2 T1.length cc2, undef, undef, undef], defers := [] } w := by
    intro w ub0 uc1 ua1 ub5 ga2 ca2 ac2 cc2 gc2 K Fa2 Fc2 Nc2
    refine Eq.mpr (hG _ _ _ _) ?_
    refine wpAnyH_ready (rs := [10, 11]) (by kernel_rfl) (by simp) ?_
    refine AllReadyH.cons rfl (fun KK hK => ?_) (AllReadyH.cons rfl (fun KK hK => ?_) AllReadyH.nil)
    · simp only [List.getElem_toArray, List.getElem_cons_succ, List.getElem_cons_zero]
      rw [if_pos (by rfl)]
      have ow := unhide Fa2
      have rr := unhide Fc2
      refine wp_cat (v1 := .slice (some ⟨ga2, 0, none⟩) S2.length ca2) (v2 := .slice ac2 T1.length cc2) _ _ rfl rfl rfl (zs := S2) (ts := T1) (b := W0.heap.size) ow.1 rr.1 (unhide NE1) (unhide K).size (unhide LS2) (unhide LT1) ?_
      intro v2 w2 o2 g2 e2
      rw [← unhide ES3] at o2
      obtain ⟨gn, cn, hv2⟩ := own_some8 (unhide PS3) o2
      subst hv2
      have hgn : gn = ga2 ∨ gn = w.heap.size := e2.imp (fun e => Option.some.inj e) (fun e => Option.some.inj e)
      have K2 := hide ((unhide K).growNew g2 (fun q hq => (ow.1.lt q hq).1))
      have nf : Hid (w2.ownsRow W0.heap.size 5 1 (.slice (some ⟨gn, 0, none⟩) S3.length cn) S3.length (S3.map (Value.int .u8)) ∧ gn < w2.heap.size) := ⟨o2, (o2.lt gn rfl).2⟩
      refine hK.out _ _ ?_ (fun hHeld => ?_)
      · exact ⟨(unhide K2).cell0 p0, (unhide K2).cell0 p1, (unhide K2).cell0 p2, (unhide K2).cell0 p3, (unhide K2).cell0 p4, (unhide K2).cell0 p5⟩
      clear hHeld hK KK
      exact Eq.mp (hG _ _ _ _) (s_b0_c1_a1_b5_a2_c2_a3 w2 ub0 uc1 ua1 ub5 (.slice (some ⟨ga2, 0, none⟩) S2.length ca2) (.slice ac2 T1.length cc2) gn cn K2 nf)
    · simp only [List.getElem_toArray, List.getElem_cons_succ, List.getElem_cons_zero]
      rw [if_pos (by rfl)]
      go_simp
      have kk := (Kept.refl 0 0 w).alloc (.cells #[.int .u8 62] 5)
      have nf : Hid (Row .u8 true w.heap.size (w.heap.size + 1) (w.alloc (.cells #[.int .u8 62] 5)) (.slice (some ⟨w.heap.size, 0, none⟩) 1 1) ([62] : List Int) ∧ w.heap.size < (w.alloc (.cells #[.int .u8 62] 5)).heap.size) := by
        refine ⟨?_, by simp⟩
        exact (Row.own (own_lit .u8 w 5 w.heap.size (Nat.le_refl _) [62] (by simp [maxLen]))).wider (Nat.le_refl _) (by simp)
      refine hK.out _ _ ?_ (fun hHeld => ?_)
      · exact ⟨(unhide (hide ((unhide K).trans kk))).cell0 p0, (unhide (hide ((unhide K).trans kk))).cell0 p1, (unhide (hide ((unhide K).trans kk))).cell0 p2, (unhide (hide ((unhide K).trans kk))).cell0 p3, (unhide (hide ((unhide K).trans kk))).cell0 p4, (unhide (hide ((unhide K).trans kk))).cell0 p5⟩
      clear hHeld hK KK
      exact Eq.mp (hG _ _ _ _) (s_b0_c1_a1_b5_a2_c2_b11 ((w.alloc (.cells #[.int .u8 62] 5))) ub0 uc1 ua1 ub5 ga2 ca2 ac2 cc2 gc2 ((some ⟨w.heap.size, 0, none⟩)) 1 (w.heap.size) (hide ((unhide K).trans kk)) (⟨own_kept (unhide Fa2).1 kk, Nat.lt_of_lt_of_le (unhide Fa2).2 kk.size⟩) (⟨(unhide Fc2).1.kept kk (by omega), Nat.lt_of_lt_of_le (unhide Fc2).2 kk.size⟩) nf Nc2 (fun e => by have := (unhide Fa2).2; have := Nat.le_refl w.heap.size; omega))
  have s_b0_c1_a1_b5_a2_b11 : ∀ (w : World) (ub0 : Value) (uc1 : Value) (ua1 : Value) (ub5 : Value) (ga2 ca2 : Nat) (ab11 : Option Addr) (cb11 gb11 : Nat) (K : Hid (Kept 0 0 W0 w)) (Fa2 : Hid (w.ownsRow W0.heap.size 5 1 (.slice (some ⟨ga2, 0, none⟩) S2.length ca2) S2.length (S2.map (Value.int .u8)) ∧ ga2 < w.heap.size)) (Fb11 : Hid (Row .u8 true gb11 (gb11 + 1) w (.slice ab11 1 cb11) ([62] : List Int) ∧ gb11 < w.heap.size)) (Nb11 : Hid (gb11 ≠ ga2)), G 4 #[true, true, true, true, true, true, true, true, true, false, false, true, false, false] { tmps := #[.agg #[.bool s0, .slice qa0 z0.length qc0, .int .i64 y0, .bool s1, .slice qa1 z1.length qc1, .int .i64 y1], .pointer (some ⟨wS.heap.size, 0, none⟩), .slice none 0 0, ub0, .pointer (some ⟨wS.heap.size, 0, none⟩), .agg #[.bool s0, .slice qa0 z0.length qc0, .int .i64 y0], uc1, ua1, ub5, .slice (some ⟨ga2, 0, none⟩) S2.length ca2, .pointer (some ⟨wS.heap.size, 3, none⟩), .agg #[.bool s1, .slice qa1 z1.length qc1, .int .i64 y1], undef, undef, .slice ab11 1 cb11, undef], defers := [] } w := by
    intro w ub0 uc1 ua1 ub5 ga2 ca2 ab11 cb11 gb11 K Fa2 Fb11 Nb11
    refine Eq.mpr (hG _ _ _ _) ?_
    refine wpAnyH_ready (rs := [9]) (by kernel_rfl) (by simp) ?_
    refine AllReadyH.cons rfl (fun KK hK => ?_) AllReadyH.nil
    · simp only [List.getElem_toArray, List.getElem_cons_succ, List.getElem_cons_zero]
      rw [if_pos (by rfl)]
      have hc := unhide H1 w (unhide K)
      refine wps1 36 _ _ rfl in_l4dec (.agg #[.bool s1, .slice qa1 z1.length qc1, .int .i64 y1]) rfl hc ?_
      rintro e w2 ⟨v2, rfl, r2, kk⟩
      refine ⟨_, rfl, ?_⟩
      obtain ⟨a2, c2, hv2⟩ := Row.form' r2
      subst hv2
      obtain ⟨g2, hg2, rb2⟩ := row_block1 r2
      have hg2 := hg2 (unhide NE1)
      have nf : Hid (Row .u8 true g2 (g2 + 1) w2 (.slice a2 T1.length c2) T1 ∧ g2 < w2.heap.size) := ⟨rb2, hg2.2⟩
      clear hc r2 rb2
      refine hK.out _ _ ?_ (fun hHeld => ?_)
      · exact ⟨(unhide (hide ((unhide K).trans kk))).cell0 p0, (unhide (hide ((unhide K).trans kk))).cell0 p1, (unhide (hide ((unhide K).trans kk))).cell0 p2, (unhide (hide ((unhide K).trans kk))).cell0 p3, (unhide (hide ((unhide K).trans kk))).cell0 p4, (unhide (hide ((unhide K).trans kk))).cell0 p5⟩
      clear hHeld hK KK
      exact Eq.mp (hG _ _ _ _) (s_b0_c1_a1_b5_a2_c2_b11 w2 ub0 uc1 ua1 ub5 ga2 ca2 a2 c2 g2 ab11 cb11 gb11 (hide ((unhide K).trans kk)) (⟨own_kept (unhide Fa2).1 kk, Nat.lt_of_lt_of_le (unhide Fa2).2 kk.size⟩) nf (⟨(unhide Fb11).1.kept kk (by omega), Nat.lt_of_lt_of_le (unhide Fb11).2 kk.size⟩) (fun e => by have := (unhide Fa2).2; have := hg2.1; omega) Nb11)
  have s_b0_c1_a1_b5_a2 : ∀ (w : World) (ub0 : Value) (uc1 : Value) (ua1 : Value) (ub5 : Value) (ga2 ca2 : Nat) (K : Hid (Kept 0 0 W0 w)) (Fa2 : Hid (w.ownsRow W0.heap.size 5 1 (.slice (some ⟨ga2, 0, none⟩) S2.length ca2) S2.length (S2.map (Value.int .u8)) ∧ ga2 < w.heap.size)), G 5 #[true, true, true, true, true, true, true, true, true, false, false, false, false, false] { tmps := #[.agg #[.bool s0, .slice qa0 z0.length qc0, .int .i64 y0, .bool s1, .slice qa1 z1.length qc1, .int .i64 y1], .pointer (some ⟨wS.heap.size, 0, none⟩), .slice none 0 0, ub0, .pointer (some ⟨wS.heap.size, 0, none⟩), .agg #[.bool s0, .slice qa0 z0.length qc0, .int .i64 y0], uc1, ua1, ub5, .slice (some ⟨ga2, 0, none⟩) S2.length ca2, .pointer (some ⟨wS.heap.size, 3, none⟩), .agg #[.bool s1, .slice qa1 z1.length qc1, .int .i64 y1], undef, undef, undef, undef], defers := [] } w := by
    intro w ub0 uc1 ua1 ub5 ga2 ca2 K Fa2
    refine Eq.mpr (hG _ _ _ _) ?_
    refine wpAnyH_ready (rs := [9, 11]) (by kernel_rfl) (by simp) ?_
    refine AllReadyH.cons rfl (fun KK hK => ?_) (AllReadyH.cons rfl (fun KK hK => ?_) AllReadyH.nil)
    · simp only [List.getElem_toArray, List.getElem_cons_succ, List.getElem_cons_zero]
      rw [if_pos (by rfl)]
      have hc := unhide H1 w (unhide K)
      refine wps1 36 _ _ rfl in_l4dec (.agg #[.bool s1, .slice qa1 z1.length qc1, .int .i64 y1]) rfl hc ?_
      rintro e w2 ⟨v2, rfl, r2, kk⟩
      refine ⟨_, rfl, ?_⟩
      obtain ⟨a2, c2, hv2⟩ := Row.form' r2
      subst hv2
      obtain ⟨g2, hg2, rb2⟩ := row_block1 r2
      have hg2 := hg2 (unhide NE1)
      have nf : Hid (Row .u8 true g2 (g2 + 1) w2 (.slice a2 T1.length c2) T1 ∧ g2 < w2.heap.size) := ⟨rb2, hg2.2⟩
      clear hc r2 rb2
      refine hK.out _ _ ?_ (fun hHeld => ?_)
      · exact ⟨(unhide (hide ((unhide K).trans kk))).cell0 p0, (unhide (hide ((unhide K).trans kk))).cell0 p1, (unhide (hide ((unhide K).trans kk))).cell0 p2, (unhide (hide ((unhide K).trans kk))).cell0 p3, (unhide (hide ((unhide K).trans kk))).cell0 p4, (unhide (hide ((unhide K).trans kk))).cell0 p5⟩
      clear hHeld hK KK
      exact Eq.mp (hG _ _ _ _) (s_b0_c1_a1_b5_a2_c2 w2 ub0 uc1 ua1 ub5 ga2 ca2 a2 c2 g2 (hide ((unhide K).trans kk)) (⟨own_kept (unhide Fa2).1 kk, Nat.lt_of_lt_of_le (unhide Fa2).2 kk.size⟩) nf (fun e => by have := (unhide Fa2).2; have := hg2.1; omega))
    · simp only [List.getElem_toArray, List.getElem_cons_succ, List.getElem_cons_zero]
      rw [if_pos (by rfl)]
      go_simp
      have kk := (Kept.refl 0 0 w).alloc (.cells #[.int .u8 62] 5)
      have nf : Hid (Row .u8 true w.heap.size (w.heap.size + 1) (w.alloc (.cells #[.int .u8 62] 5)) (.slice (some ⟨w.heap.size, 0, none⟩) 1 1) ([62] : List Int) ∧ w.heap.size < (w.alloc (.cells #[.int .u8 62] 5)).heap.size) := by
        refine ⟨?_, by simp⟩
        exact (Row.own (own_lit .u8 w 5 w.heap.size (Nat.le_refl _) [62] (by simp [maxLen]))).wider (Nat.le_refl _) (by simp)
      refine hK.out _ _ ?_ (fun hHeld => ?_)
      · exact ⟨(unhide (hide ((unhide K).trans kk))).cell0 p0, (unhide (hide ((unhide K).trans kk))).cell0 p1, (unhide (hide ((unhide K).trans kk))).cell0 p2, (unhide (hide ((unhide K).trans kk))).cell0 p3, (unhide (hide ((unhide K).trans kk))).cell0 p4, (unhide (hide ((unhide K).trans kk))).cell0 p5⟩
      clear hHeld hK KK
      exact Eq.mp (hG _ _ _ _) (s_b0_c1_a1_b5_a2_b11 ((w.alloc (.cells #[.int .u8 62] 5))) ub0 uc1 ua1 ub5 ga2 ca2 ((some ⟨w.heap.size, 0, none⟩)) 1 (w.heap.size) (hide ((unhide K).trans kk)) (⟨own_kept (unhide Fa2).1 kk, Nat.lt_of_lt_of_le (unhide Fa2).2 kk.size⟩) nf (fun e => by have := (unhide Fa2).2; have := Nat.le_refl w.heap.size; omega))
  have s_b0_c1_a1_b5_b11 : ∀ (w : World) (ub0 : Value) (uc1 : Value) (ga1 ca1 : Nat) (ab5 : Option Addr) (cb5 gb5 : Nat) (ab11 : Option Addr) (cb11 gb11 : Nat) (K : Hid (Kept 0 0 W0 w)) (Fa1 : Hid (w.ownsRow W0.heap.size 5 1 (.slice (some ⟨ga1, 0, none⟩) S1.length ca1) S1.length (S1.map (Value.int .u8)) ∧ ga1 < w.heap.size)) (Fb5 : Hid (Row .u8 true gb5 (gb5 + 1) w (.slice ab5 1 cb5) ([32] : List Int) ∧ gb5 < w.heap.size)) (Fb11 : Hid (Row .u8 true gb11 (gb11 + 1) w (.slice ab11 1 cb11) ([62] : List Int) ∧ gb11 < w.heap.size)) (Nb5 : Hid (gb5 ≠ ga1)) (Nb11 : Hid (gb11 ≠ ga1)), G 5 #[true, true, true, true, true, true, false, true, true, false, false, true, false, false] { tmps := #[.agg #[.bool s0, .slice qa0 z0.length qc0, .int .i64 y0, .bool s1, .slice qa1 z1.length qc1, .int .i64 y1], .pointer (some ⟨wS.heap.size, 0, none⟩), .slice none 0 0, ub0, .pointer (some ⟨wS.heap.size, 0, none⟩), .agg #[.bool s0, .slice qa0 z0.length qc0, .int .i64 y0], uc1, .slice (some ⟨ga1, 0, none⟩) S1.length ca1, .slice ab5 1 cb5, undef, .pointer (some ⟨wS.heap.size, 3, none⟩), .agg #[.bool s1, .slice qa1 z1.length qc1, .int .i64 y1], undef, undef, .slice ab11 1 cb11, undef], defers := [] } w := by
    intro w ub0 uc1 ga1 ca1 ab5 cb5 gb5 ab11 cb11 gb11 K Fa1 Fb5 Fb11 Nb5 Nb11
    refine Eq.mpr (hG _ _ _ _) ?_
    refine wpAnyH_ready (rs := [6]) (by kernel_rfl) (by simp) ?_
    refine AllReadyH.cons rfl (fun KK hK => ?_) AllReadyH.nil
    · simp only [List.getElem_toArray, List.getElem_cons_succ, List.getElem_cons_zero]
      rw [if_pos (by rfl)]
      have ow := unhide Fa1
      have rr := unhide Fb5
      refine wp_cat (v1 := .slice (some ⟨ga1, 0, none⟩) S1.length ca1) (v2 := .slice ab5 1 cb5) _ _ rfl rfl rfl (zs := S1) (ts := ([32] : List Int)) (b := W0.heap.size) ow.1 rr.1 (unhide NE5) (unhide K).size (unhide LS1) (unhide LB5) ?_
      intro v2 w2 o2 g2 e2
      rw [← unhide ES2] at o2
      obtain ⟨gn, cn, hv2⟩ := own_some8 (unhide PS2) o2
      subst hv2
      have hgn : gn = ga1 ∨ gn = w.heap.size := e2.imp (fun e => Option.some.inj e) (fun e => Option.some.inj e)
      have K2 := hide ((unhide K).growNew g2 (fun q hq => (ow.1.lt q hq).1))
      have nf : Hid (w2.ownsRow W0.heap.size 5 1 (.slice (some ⟨gn, 0, none⟩) S2.length cn) S2.length (S2.map (Value.int .u8)) ∧ gn < w2.heap.size) := ⟨o2, (o2.lt gn rfl).2⟩
      refine hK.out _ _ ?_ (fun hHeld => ?_)
      · exact ⟨(unhide K2).cell0 p0, (unhide K2).cell0 p1, (unhide K2).cell0 p2, (unhide K2).cell0 p3, (unhide K2).cell0 p4, (unhide K2).cell0 p5⟩
      clear hHeld hK KK
      exact Eq.mp (hG _ _ _ _) (s_b0_c1_a1_b5_a2_b11 w2 ub0 uc1 (.slice (some ⟨ga1, 0, none⟩) S1.length ca1) (.slice ab5 1 cb5) gn cn ab11 cb11 gb11 K2 nf (⟨row_apart (unhide Fb11).1 g2 (fun q hq => by have : ga1 = q := Option.some.inj hq; have := unhide Nb11; omega), Nat.lt_of_lt_of_le (unhide Fb11).2 g2.size⟩) (fun e => by have := unhide Nb11; have := (unhide Fb11).2; omega))
  have s_b0_c1_a1_b5 : ∀ (w : World) (ub0 : Value) (uc1 : Value) (ga1 ca1 : Nat) (ab5 : Option Addr) (cb5 gb5 : Nat) (K : Hid (Kept 0 0 W0 w)) (Fa1 : Hid (w.ownsRow W0.heap.size 5 1 (.slice (some ⟨ga1, 0, none⟩) S1.length ca1) S1.length (S1.map (Value.int .u8)) ∧ ga1 < w.heap.size)) (Fb5 : Hid (Row .u8 true gb5 (gb5 + 1) w (.slice ab5 1 cb5) ([32] : List Int) ∧ gb5 < w.heap.size)) (Nb5 : Hid (gb5 ≠ ga1)), G 6 #[true, true, true, true, true, true, false, true, true, false, false, false, false, false] { tmps := #[.agg #[.bool s0, .slice qa0 z0.length qc0, .int .i64 y0, .bool s1, .slice qa1 z1.length qc1, .int .i64 y1], .pointer (some ⟨wS.heap.size, 0, none⟩), .slice none 0 0, ub0, .pointer (some ⟨wS.heap.size, 0, none⟩), .agg #[.bool s0, .slice qa0 z0.length qc0, .int .i64 y0], uc1, .slice (some ⟨ga1, 0, none⟩) S1.length ca1, .slice ab5 1 cb5, undef, .pointer (some ⟨wS.heap.size, 3, none⟩), .agg #[.bool s1, .slice qa1 z1.length qc1, .int .i64 y1], undef, undef, undef, undef], defers := [] } w := by
    intro w ub0 uc1 ga1 ca1 ab5 cb5 gb5 K Fa1 Fb5 Nb5
    refine Eq.mpr (hG _ _ _ _) ?_
    refine wpAnyH_ready (rs := [6, 11]) (by kernel_rfl) (by simp) ?_
    refine AllReadyH.cons rfl (fun KK hK => ?_) (AllReadyH.cons rfl (fun KK hK => ?_) AllReadyH.nil)
    · simp only [List.getElem_toArray, List.getElem_cons_succ, List.getElem_cons_zero]
      rw [if_pos (by rfl)]
      have ow := unhide Fa1
      have rr := unhide Fb5
      refine wp_cat (v1 := .slice (some ⟨ga1, 0, none⟩) S1.length ca1) (v2 := .slice ab5 1 cb5) _ _ rfl rfl rfl (zs := S1) (ts := ([32] : List Int)) (b := W0.heap.size) ow.1 rr.1 (unhide NE5) (unhide K).size (unhide LS1) (unhide LB5) ?_
      intro v2 w2 o2 g2 e2
      rw [← unhide ES2] at o2
      obtain ⟨gn, cn, hv2⟩ := own_some8 (unhide PS2) o2
      subst hv2
      have hgn : gn = ga1 ∨ gn = w.heap.size := e2.imp (fun e => Option.some.inj e) (fun e => Option.some.inj e)
      have K2 := hide ((unhide K).growNew g2 (fun q hq => (ow.1.lt q hq).1))
      have nf : Hid (w2.ownsRow W0.heap.size 5 1 (.slice (some ⟨gn, 0, none⟩) S2.length cn) S2.length (S2.map (Value.int .u8)) ∧ gn < w2.heap.size) := ⟨o2, (o2.lt gn rfl).2⟩
      refine hK.out _ _ ?_ (fun hHeld => ?_)
      · exact ⟨(unhide K2).cell0 p0, (unhide K2).cell0 p1, (unhide K2).cell0 p2, (unhide K2).cell0 p3, (unhide K2).cell0 p4, (unhide K2).cell0 p5⟩
      clear hHeld hK KK
      exact Eq.mp (hG _ _ _ _) (s_b0_c1_a1_b5_a2 w2 ub0 uc1 (.slice (some ⟨ga1, 0, none⟩) S1.length ca1) (.slice ab5 1 cb5) gn cn K2 nf)
    · simp only [List.getElem_toArray, List.getElem_cons_succ, List.getElem_cons_zero]
      rw [if_pos (by rfl)]
      go_simp
      have kk := (Kept.refl 0 0 w).alloc (.cells #[.int .u8 62] 5)
      have nf : Hid (Row .u8 true w.heap.size (w.heap.size + 1) (w.alloc (.cells #[.int .u8 62] 5)) (.slice (some ⟨w.heap.size, 0, none⟩) 1 1) ([62] : List Int) ∧ w.heap.size < (w.alloc (.cells #[.int .u8 62] 5)).heap.size) := by
        refine ⟨?_, by simp⟩
        exact (Row.own (own_lit .u8 w 5 w.heap.size (Nat.le_refl _) [62] (by simp [maxLen]))).wider (Nat.le_refl _) (by simp)
      refine hK.out _ _ ?_ (fun hHeld => ?_)
      · exact ⟨(unhide (hide ((unhide K).trans kk))).cell0 p0, (unhide (hide ((unhide K).trans kk))).cell0 p1, (unhide (hide ((unhide K).trans kk))).cell0 p2, (unhide (hide ((unhide K).trans kk))).cell0 p3, (unhide (hide ((unhide K).trans kk))).cell0 p4, (unhide (hide ((unhide K).trans kk))).cell0 p5⟩
      clear hHeld hK KK
      exact Eq.mp (hG _ _ _ _) (s_b0_c1_a1_b5_b11 ((w.alloc (.cells #[.int .u8 62] 5))) ub0 uc1 ga1 ca1 ab5 cb5 gb5 ((some ⟨w.heap.size, 0, none⟩)) 1 (w.heap.size) (hide ((unhide K).trans kk)) (⟨own_kept (unhide Fa1).1 kk, Nat.lt_of_lt_of_le (unhide Fa1).2 kk.size⟩) (⟨(unhide Fb5).1.kept kk (by omega), Nat.lt_of_lt_of_le (unhide Fb5).2 kk.size⟩) nf Nb5 (fun e => by have := (unhide Fa1).2; have := Nat.le_refl w.heap.size; omega))
  have s_b0_c1_a1_b11 : ∀ (w : World) (ub0 : Value) (uc1 : Value) (ga1 ca1 : Nat) (ab11 : Option Addr) (cb11 gb11 : Nat) (K : Hid (Kept 0 0 W0 w)) (Fa1 : Hid (w.ownsRow W0.heap.size 5 1 (.slice (some ⟨ga1, 0, none⟩) S1.length ca1) S1.length (S1.map (Value.int .u8)) ∧ ga1 < w.heap.size)) (Fb11 : Hid (Row .u8 true gb11 (gb11 + 1) w (.slice ab11 1 cb11) ([62] : List Int) ∧ gb11 < w.heap.size)) (Nb11 : Hid (gb11 ≠ ga1)), G 6 #[true, true, true, true, true, false, false, true, true, false, false, true, false, false] { tmps := #[.agg #[.bool s0, .slice qa0 z0.length qc0, .int .i64 y0, .bool s1, .slice qa1 z1.length qc1, .int .i64 y1], .pointer (some ⟨wS.heap.size, 0, none⟩), .slice none 0 0, ub0, .pointer (some ⟨wS.heap.size, 0, none⟩), .agg #[.bool s0, .slice qa0 z0.length qc0, .int .i64 y0], uc1, .slice (some ⟨ga1, 0, none⟩) S1.length ca1, undef, undef, .pointer (some ⟨wS.heap.size, 3, none⟩), .agg #[.bool s1, .slice qa1 z1.length qc1, .int .i64 y1], undef, undef, .slice ab11 1 cb11, undef], defers := [] } w := by
    intro w ub0 uc1 ga1 ca1 ab11 cb11 gb11 K Fa1 Fb11 Nb11
    refine Eq.mpr (hG _ _ _ _) ?_
    refine wpAnyH_ready (rs := [5]) (by kernel_rfl) (by simp) ?_
    refine AllReadyH.cons rfl (fun KK hK => ?_) AllReadyH.nil
    · simp only [List.getElem_toArray, List.getElem_cons_succ, List.getElem_cons_zero]
      rw [if_pos (by rfl)]
      go_simp
      have kk := (Kept.refl 0 0 w).alloc (.cells #[.int .u8 32] 5)
      have nf : Hid (Row .u8 true w.heap.size (w.heap.size + 1) (w.alloc (.cells #[.int .u8 32] 5)) (.slice (some ⟨w.heap.size, 0, none⟩) 1 1) ([32] : List Int) ∧ w.heap.size < (w.alloc (.cells #[.int .u8 32] 5)).heap.size) := by
        refine ⟨?_, by simp⟩
        exact (Row.own (own_lit .u8 w 5 w.heap.size (Nat.le_refl _) [32] (by simp [maxLen]))).wider (Nat.le_refl _) (by simp)
      refine hK.out _ _ ?_ (fun hHeld => ?_)
      · exact ⟨(unhide (hide ((unhide K).trans kk))).cell0 p0, (unhide (hide ((unhide K).trans kk))).cell0 p1, (unhide (hide ((unhide K).trans kk))).cell0 p2, (unhide (hide ((unhide K).trans kk))).cell0 p3, (unhide (hide ((unhide K).trans kk))).cell0 p4, (unhide (hide ((unhide K).trans kk))).cell0 p5⟩
      clear hHeld hK KK
      exact Eq.mp (hG _ _ _ _) (s_b0_c1_a1_b5_b11 ((w.alloc (.cells #[.int .u8 32] 5))) ub0 uc1 ga1 ca1 ((some ⟨w.heap.size, 0, none⟩)) 1 (w.heap.size) ab11 cb11 gb11 (hide ((unhide K).trans kk)) (⟨own_kept (unhide Fa1).1 kk, Nat.lt_of_lt_of_le (unhide Fa1).2 kk.size⟩) nf (⟨(unhide Fb11).1.kept kk (by omega), Nat.lt_of_lt_of_le (unhide Fb11).2 kk.size⟩) (fun e => by have := (unhide Fa1).2; have := Nat.le_refl w.heap.size; omega) Nb11)
  have s_b0_c1_b5_b11 : ∀ (w : World) (gb0 cb0 : Nat) (ac1 : Option Addr) (cc1 gc1 : Nat) (ab5 : Option Addr) (cb5 gb5 : Nat) (ab11 : Option Addr) (cb11 gb11 : Nat) (K : Hid (Kept 0 0 W0 w)) (Fb0 : Hid (w.ownsRow W0.heap.size 5 1 (.slice (some ⟨gb0, 0, none⟩) 1 cb0) ([60] : List Int).length (([60] : List Int).map (Value.int .u8)) ∧ gb0 < w.heap.size)) (Fc1 : Hid (Row .u8 true gc1 (gc1 + 1) w (.slice ac1 T0.length cc1) T0 ∧ gc1 < w.heap.size)) (Fb5 : Hid (Row .u8 true gb5 (gb5 + 1) w (.slice ab5 1 cb5) ([32] : List Int) ∧ gb5 < w.heap.size)) (Fb11 : Hid (Row .u8 true gb11 (gb11 + 1) w (.slice ab11 1 cb11) ([62] : List Int) ∧ gb11 < w.heap.size)) (Nc1 : Hid (gc1 ≠ gb0)) (Nb5 : Hid (gb5 ≠ gb0)) (Nb11 : Hid (gb11 ≠ gb0)), G 6 #[true, true, true, true, false, true, false, true, true, false, false, true, false, false] { tmps := #[.agg #[.bool s0, .slice qa0 z0.length qc0, .int .i64 y0, .bool s1, .slice qa1 z1.length qc1, .int .i64 y1], .pointer (some ⟨wS.heap.size, 0, none⟩), .slice none 0 0, .slice (some ⟨gb0, 0, none⟩) 1 cb0, .pointer (some ⟨wS.heap.size, 0, none⟩), .agg #[.bool s0, .slice qa0 z0.length qc0, .int .i64 y0], .slice ac1 T0.length cc1, undef, .slice ab5 1 cb5, undef, .pointer (some ⟨wS.heap.size, 3, none⟩), .agg #[.bool s1, .slice qa1 z1.length qc1, .int .i64 y1], undef, undef, .slice ab11 1 cb11, undef], defers := [] } w := by
    intro w gb0 cb0 ac1 cc1 gc1 ab5 cb5 gb5 ab11 cb11 gb11 K Fb0 Fc1 Fb5 Fb11 Nc1 Nb5 Nb11
    refine Eq.mpr (hG _ _ _ _) ?_
    refine wpAnyH_ready (rs := [4]) (by kernel_rfl) (by simp) ?_
    refine AllReadyH.cons rfl (fun KK hK => ?_) AllReadyH.nil
    · simp only [List.getElem_toArray, List.getElem_cons_succ, List.getElem_cons_zero]
      rw [if_pos (by rfl)]
      have ow := unhide Fb0
      have rr := unhide Fc1
      refine wp_cat (v1 := .slice (some ⟨gb0, 0, none⟩) 1 cb0) (v2 := .slice ac1 T0.length cc1) _ _ rfl rfl rfl (zs := ([60] : List Int)) (ts := T0) (b := W0.heap.size) ow.1 rr.1 (unhide NE0) (unhide K).size (unhide LS0) (unhide LT0) ?_
      intro v2 w2 o2 g2 e2
      rw [← unhide ES1] at o2
      obtain ⟨gn, cn, hv2⟩ := own_some8 (unhide PS1) o2
      subst hv2
      have hgn : gn = gb0 ∨ gn = w.heap.size := e2.imp (fun e => Option.some.inj e) (fun e => Option.some.inj e)
      have K2 := hide ((unhide K).growNew g2 (fun q hq => (ow.1.lt q hq).1))
      have nf : Hid (w2.ownsRow W0.heap.size 5 1 (.slice (some ⟨gn, 0, none⟩) S1.length cn) S1.length (S1.map (Value.int .u8)) ∧ gn < w2.heap.size) := ⟨o2, (o2.lt gn rfl).2⟩
      refine hK.out _ _ ?_ (fun hHeld => ?_)
      · exact ⟨(unhide K2).cell0 p0, (unhide K2).cell0 p1, (unhide K2).cell0 p2, (unhide K2).cell0 p3, (unhide K2).cell0 p4, (unhide K2).cell0 p5⟩
      clear hHeld hK KK
      exact Eq.mp (hG _ _ _ _) (s_b0_c1_a1_b5_b11 w2 (.slice (some ⟨gb0, 0, none⟩) 1 cb0) (.slice ac1 T0.length cc1) gn cn ab5 cb5 gb5 ab11 cb11 gb11 K2 nf (⟨row_apart (unhide Fb5).1 g2 (fun q hq => by have : gb0 = q := Option.some.inj hq; have := unhide Nb5; omega), Nat.lt_of_lt_of_le (unhide Fb5).2 g2.size⟩) (⟨row_apart (unhide Fb11).1 g2 (fun q hq => by have : gb0 = q := Option.some.inj hq; have := unhide Nb11; omega), Nat.lt_of_lt_of_le (unhide Fb11).2 g2.size⟩) (fun e => by have := unhide Nb5; have := (unhide Fb5).2; omega) (fun e => by have := unhide Nb11; have := (unhide Fb11).2; omega))
  have s_b0_c1_a1 : ∀ (w : World) (ub0 : Value) (uc1 : Value) (ga1 ca1 : Nat) (K : Hid (Kept 0 0 W0 w)) (Fa1 : Hid (w.ownsRow W0.heap.size 5 1 (.slice (some ⟨ga1, 0, none⟩) S1.length ca1) S1.length (S1.map (Value.int .u8)) ∧ ga1 < w.heap.size)), G 7 #[true, true, true, true, true, false, false, true, true, false, false, false, false, false] { tmps := #[.agg #[.bool s0, .slice qa0 z0.length qc0, .int .i64 y0, .bool s1, .slice qa1 z1.length qc1, .int .i64 y1], .pointer (some ⟨wS.heap.size, 0, none⟩), .slice none 0 0, ub0, .pointer (some ⟨wS.heap.size, 0, none⟩), .agg #[.bool s0, .slice qa0 z0.length qc0, .int .i64 y0], uc1, .slice (some ⟨ga1, 0, none⟩) S1.length ca1, undef, undef, .pointer (some ⟨wS.heap.size, 3, none⟩), .agg #[.bool s1, .slice qa1 z1.length qc1, .int .i64 y1], undef, undef, undef, undef], defers := [] } w := by
    intro w ub0 uc1 ga1 ca1 K Fa1
    refine Eq.mpr (hG _ _ _ _) ?_
    refine wpAnyH_ready (rs := [5, 11]) (by kernel_rfl) (by simp) ?_
    refine AllReadyH.cons rfl (fun KK hK => ?_) (AllReadyH.cons rfl (fun KK hK => ?_) AllReadyH.nil)
    · simp only [List.getElem_toArray, List.getElem_cons_succ, List.getElem_cons_zero]
      rw [if_pos (by rfl)]
      go_simp
      have kk := (Kept.refl 0 0 w).alloc (.cells #[.int .u8 32] 5)
      have nf : Hid (Row .u8 true w.heap.size (w.heap.size + 1) (w.alloc (.cells #[.int .u8 32] 5)) (.slice (some ⟨w.heap.size, 0, none⟩) 1 1) ([32] : List Int) ∧ w.heap.size < (w.alloc (.cells #[.int .u8 32] 5)).heap.size) := by
        refine ⟨?_, by simp⟩
        exact (Row.own (own_lit .u8 w 5 w.heap.size (Nat.le_refl _) [32] (by simp [maxLen]))).wider (Nat.le_refl _) (by simp)
      refine hK.out _ _ ?_ (fun hHeld => ?_)
      · exact ⟨(unhide (hide ((unhide K).trans kk))).cell0 p0, (unhide (hide ((unhide K).trans kk))).cell0 p1, (unhide (hide ((unhide K).trans kk))).cell0 p2, (unhide (hide ((unhide K).trans kk))).cell0 p3, (unhide (hide ((unhide K).trans kk))).cell0 p4, (unhide (hide ((unhide K).trans kk))).cell0 p5⟩
      clear hHeld hK KK
      exact Eq.mp (hG _ _ _ _) (s_b0_c1_a1_b5 ((w.alloc (.cells #[.int .u8 32] 5))) ub0 uc1 ga1 ca1 ((some ⟨w.heap.size, 0, none⟩)) 1 (w.heap.size) (hide ((unhide K).trans kk)) (⟨own_kept (unhide Fa1).1 kk, Nat.lt_of_lt_of_le (unhide Fa1).2 kk.size⟩) nf (fun e => by have := (unhide Fa1).2; have := Nat.le_refl w.heap.size; omega))
    · simp only [List.getElem_toArray, List.getElem_cons_succ, List.getElem_cons_zero]
      rw [if_pos (by rfl)]
      go_simp
      have kk := (Kept.refl 0 0 w).alloc (.cells #[.int .u8 62] 5)
      have nf : Hid (Row .u8 true w.heap.size (w.heap.size + 1) (w.alloc (.cells #[.int .u8 62] 5)) (.slice (some ⟨w.heap.size, 0, none⟩) 1 1) ([62] : List Int) ∧ w.heap.size < (w.alloc (.cells #[.int .u8 62] 5)).heap.size) := by
        refine ⟨?_, by simp⟩
        exact (Row.own (own_lit .u8 w 5 w.heap.size (Nat.le_refl _) [62] (by simp [maxLen]))).wider (Nat.le_refl _) (by simp)
      refine hK.out _ _ ?_ (fun hHeld => ?_)
      · exact ⟨(unhide (hide ((unhide K).trans kk))).cell0 p0, (unhide (hide ((unhide K).trans kk))).cell0 p1, (unhide (hide ((unhide K).trans kk))).cell0 p2, (unhide (hide ((unhide K).trans kk))).cell0 p3, (unhide (hide ((unhide K).trans kk))).cell0 p4, (unhide (hide ((unhide K).trans kk))).cell0 p5⟩
      clear hHeld hK KK
      exact Eq.mp (hG _ _ _ _) (s_b0_c1_a1_b11 ((w.alloc (.cells #[.int .u8 62] 5))) ub0 uc1 ga1 ca1 ((some ⟨w.heap.size, 0, none⟩)) 1 (w.heap.size) (hide ((unhide K).trans kk)) (⟨own_kept (unhide Fa1).1 kk, Nat.lt_of_lt_of_le (unhide Fa1).2 kk.size⟩) nf (fun e => by have := (unhide Fa1).2; have := Nat.le_refl w.heap.size; omega))
  have s_b0_c1_b5 : ∀ (w : World) (gb0 cb0 : Nat) (ac1 : Option Addr) (cc1 gc1 : Nat) (ab5 : Option Addr) (cb5 gb5 : Nat) (K : Hid (Kept 0 0 W0 w)) (Fb0 : Hid (w.ownsRow W0.heap.size 5 1 (.slice (some ⟨gb0, 0, none⟩) 1 cb0) ([60] : List Int).length (([60] : List Int).map (Value.int .u8)) ∧ gb0 < w.heap.size)) (Fc1 : Hid (Row .u8 true gc1 (gc1 + 1) w (.slice ac1 T0.length cc1) T0 ∧ gc1 < w.heap.size)) (Fb5 : Hid (Row .u8 true gb5 (gb5 + 1) w (.slice ab5 1 cb5) ([32] : List Int) ∧ gb5 < w.heap.size)) (Nc1 : Hid (gc1 ≠ gb0)) (Nb5 : Hid (gb5 ≠ gb0)), G 7 #[true, true, true, true, false, true, false, true, true, false, false, false, false, false] { tmps := #[.agg #[.bool s0, .slice qa0 z0.length qc0, .int .i64 y0, .bool s1, .slice qa1 z1.length qc1, .int .i64 y1], .pointer (some ⟨wS.heap.size, 0, none⟩), .slice none 0 0, .slice (some ⟨gb0, 0, none⟩) 1 cb0, .pointer (some ⟨wS.heap.size, 0, none⟩), .agg #[.bool s0, .slice qa0 z0.length qc0, .int .i64 y0], .slice ac1 T0.length cc1, undef, .slice ab5 1 cb5, undef, .pointer (some ⟨wS.heap.size, 3, none⟩), .agg #[.bool s1, .slice qa1 z1.length qc1, .int .i64 y1], undef, undef, undef, undef], defers := [] } w := by
    intro w gb0 cb0 ac1 cc1 gc1 ab5 cb5 gb5 K Fb0 Fc1 Fb5 Nc1 Nb5
    refine Eq.mpr (hG _ _ _ _) ?_
    refine wpAnyH_ready (rs := [4, 11]) (by kernel_rfl) (by simp) ?_
    refine AllReadyH.cons rfl (fun KK hK => ?_) (AllReadyH.cons rfl (fun KK hK => ?_) AllReadyH.nil)
    · simp only [List.getElem_toArray, List.getElem_cons_succ, List.getElem_cons_zero]
      rw [if_pos (by rfl)]
      have ow := unhide Fb0
      have rr := unhide Fc1
      refine wp_cat (v1 := .slice (some ⟨gb0, 0, none⟩) 1 cb0) (v2 := .slice ac1 T0.length cc1) _ _ rfl rfl rfl (zs := ([60] : List Int)) (ts := T0) (b := W0.heap.size) ow.1 rr.1 (unhide NE0) (unhide K).size (unhide LS0) (unhide LT0) ?_
      intro v2 w2 o2 g2 e2
      rw [← unhide ES1] at o2
      obtain ⟨gn, cn, hv2⟩ := own_some8 (unhide PS1) o2
      subst hv2
      have hgn : gn = gb0 ∨ gn = w.heap.size := e2.imp (fun e => Option.some.inj e) (fun e => Option.some.inj e)
      have K2 := hide ((unhide K).growNew g2 (fun q hq => (ow.1.lt q hq).1))
      have nf : Hid (w2.ownsRow W0.heap.size 5 1 (.slice (some ⟨gn, 0, none⟩) S1.length cn) S1.length (S1.map (Value.int .u8)) ∧ gn < w2.heap.size) := ⟨o2, (o2.lt gn rfl).2⟩
      refine hK.out _ _ ?_ (fun hHeld => ?_)
      · exact ⟨(unhide K2).cell0 p0, (unhide K2).cell0 p1, (unhide K2).cell0 p2, (unhide K2).cell0 p3, (unhide K2).cell0 p4, (unhide K2).cell0 p5⟩
      clear hHeld hK KK
      exact Eq.mp (hG _ _ _ _) (s_b0_c1_a1_b5 w2 (.slice (some ⟨gb0, 0, none⟩) 1 cb0) (.slice ac1 T0.length cc1) gn cn ab5 cb5 gb5 K2 nf (⟨row_apart (unhide Fb5).1 g2 (fun q hq => by have : gb0 = q := Option.some.inj hq; have := unhide Nb5; omega), Nat.lt_of_lt_of_le (unhide Fb5).2 g2.size⟩) (fun e => by have := unhide Nb5; have := (unhide Fb5).2; omega))
    · simp only [List.getElem_toArray, List.getElem_cons_succ, List.getElem_cons_zero]
      rw [if_pos (by rfl)]
      go_simp
      have kk := (Kept.refl 0 0 w).alloc (.cells #[.int .u8 62] 5)
      have nf : Hid (Row .u8 true w.heap.size (w.heap.size + 1) (w.alloc (.cells #[.int .u8 62] 5)) (.slice (some ⟨w.heap.size, 0, none⟩) 1 1) ([62] : List Int) ∧ w.heap.size < (w.alloc (.cells #[.int .u8 62] 5)).heap.size) := by
        refine ⟨?_, by simp⟩
        exact (Row.own (own_lit .u8 w 5 w.heap.size (Nat.le_refl _) [62] (by simp [maxLen]))).wider (Nat.le_refl _) (by simp)
      refine hK.out _ _ ?_ (fun hHeld => ?_)
      · exact ⟨(unhide (hide ((unhide K).trans kk))).cell0 p0, (unhide (hide ((unhide K).trans kk))).cell0 p1, (unhide (hide ((unhide K).trans kk))).cell0 p2, (unhide (hide ((unhide K).trans kk))).cell0 p3, (unhide (hide ((unhide K).trans kk))).cell0 p4, (unhide (hide ((unhide K).trans kk))).cell0 p5⟩
      clear hHeld hK KK
      exact Eq.mp (hG _ _ _ _) (s_b0_c1_b5_b11 ((w.alloc (.cells #[.int .u8 62] 5))) gb0 cb0 ac1 cc1 gc1 ab5 cb5 gb5 ((some ⟨w.heap.size, 0, none⟩)) 1 (w.heap.size) (hide ((unhide K).trans kk)) (⟨own_kept (unhide Fb0).1 kk, Nat.lt_of_lt_of_le (unhide Fb0).2 kk.size⟩) (⟨(unhide Fc1).1.kept kk (by omega), Nat.lt_of_lt_of_le (unhide Fc1).2 kk.size⟩) (⟨(unhide Fb5).1.kept kk (by omega), Nat.lt_of_lt_of_le (unhide Fb5).2 kk.size⟩) nf Nc1 Nb5 (fun e => by have := (unhide Fb0).2; have := Nat.le_refl w.heap.size; omega))
  have s_b0_c1_b11 : ∀ (w : World) (gb0 cb0 : Nat) (ac1 : Option Addr) (cc1 gc1 : Nat) (ab11 : Option Addr) (cb11 gb11 : Nat) (K : Hid (Kept 0 0 W0 w)) (Fb0 : Hid (w.ownsRow W0.heap.size 5 1 (.slice (some ⟨gb0, 0, none⟩) 1 cb0) ([60] : List Int).length (([60] : List Int).map (Value.int .u8)) ∧ gb0 < w.heap.size)) (Fc1 : Hid (Row .u8 true gc1 (gc1 + 1) w (.slice ac1 T0.length cc1) T0 ∧ gc1 < w.heap.size)) (Fb11 : Hid (Row .u8 true gb11 (gb11 + 1) w (.slice ab11 1 cb11) ([62] : List Int) ∧ gb11 < w.heap.size)) (Nc1 : Hid (gc1 ≠ gb0)) (Nb11 : Hid (gb11 ≠ gb0)), G 7 #[true, true, true, true, false, false, false, true, true, false, false, true, false, false] { tmps := #[.agg #[.bool s0, .slice qa0 z0.length qc0, .int .i64 y0, .bool s1, .slice qa1 z1.length qc1, .int .i64 y1], .pointer (some ⟨wS.heap.size, 0, none⟩), .slice none 0 0, .slice (some ⟨gb0, 0, none⟩) 1 cb0, .pointer (some ⟨wS.heap.size, 0, none⟩), .agg #[.bool s0, .slice qa0 z0.length qc0, .int .i64 y0], .slice ac1 T0.length cc1, undef, undef, undef, .pointer (some ⟨wS.heap.size, 3, none⟩), .agg #[.bool s1, .slice qa1 z1.length qc1, .int .i64 y1], undef, undef, .slice ab11 1 cb11, undef], defers := [] } w := by
    intro w gb0 cb0 ac1 cc1 gc1 ab11 cb11 gb11 K Fb0 Fc1 Fb11 Nc1 Nb11
    refine Eq.mpr (hG _ _ _ _) ?_
    refine wpAnyH_ready (rs := [4, 5]) (by kernel_rfl) (by simp) ?_
    refine AllReadyH.cons rfl (fun KK hK => ?_) (AllReadyH.cons rfl (fun KK hK => ?_) AllReadyH.nil)
    · simp only [List.getElem_toArray, List.getElem_cons_succ, List.getElem_cons_zero]
      rw [if_pos (by rfl)]
      have ow := unhide Fb0
      have rr := unhide Fc1
      refine wp_cat (v1 := .slice (some ⟨gb0, 0, none⟩) 1 cb0) (v2 := .slice ac1 T0.length cc1) _ _ rfl rfl rfl (zs := ([60] : List Int)) (ts := T0) (b := W0.heap.size) ow.1 rr.1 (unhide NE0) (unhide K).size (unhide LS0) (unhide LT0) ?_
      intro v2 w2 o2 g2 e2
      rw [← unhide ES1] at o2
      obtain ⟨gn, cn, hv2⟩ := own_some8 (unhide PS1) o2
      subst hv2
      have hgn : gn = gb0 ∨ gn = w.heap.size := e2.imp (fun e => Option.some.inj e) (fun e => Option.some.inj e)
      have K2 := hide ((unhide K).growNew g2 (fun q hq => (ow.1.lt q hq).1))
      have nf : Hid (w2.ownsRow W0.heap.size 5 1 (.slice (some ⟨gn, 0, none⟩) S1.length cn) S1.length (S1.map (Value.int .u8)) ∧ gn < w2.heap.size) := ⟨o2, (o2.lt gn rfl).2⟩
      refine hK.out _ _ ?_ (fun hHeld => ?_)
      · exact ⟨(unhide K2).cell0 p0, (unhide K2).cell0 p1, (unhide K2).cell0 p2, (unhide K2).cell0 p3, (unhide K2).cell0 p4, (unhide K2).cell0 p5⟩
      clear hHeld hK KK
      exact Eq.mp (hG _ _ _ _) (s_b0_c1_a1_b11 w2 (.slice (some ⟨gb0, 0, none⟩) 1 cb0) (.slice ac1 T0.length cc1) gn cn ab11 cb11 gb11 K2 nf (⟨row_apart (unhide Fb11).1 g2 (fun q hq => by have : gb0 = q := Option.some.inj hq; have := unhide Nb11; omega), Nat.lt_of_lt_of_le (unhide Fb11).2 g2.size⟩) (fun e => by have := unhide Nb11; have := (unhide Fb11).2; omega))
    · simp only [List.getElem_toArray, List.getElem_cons_succ, List.getElem_cons_zero]
      rw [if_pos (by rfl)]
      go_simp
      have kk := (Kept.refl 0 0 w).alloc (.cells #[.int .u8 32] 5)
      have nf : Hid (Row .u8 true w.heap.size (w.heap.size + 1) (w.alloc (.cells #[.int .u8 32] 5)) (.slice (some ⟨w.heap.size, 0, none⟩) 1 1) ([32] : List Int) ∧ w.heap.size < (w.alloc (.cells #[.int .u8 32] 5)).heap.size) := by
        refine ⟨?_, by simp⟩
        exact (Row.own (own_lit .u8 w 5 w.heap.size (Nat.le_refl _) [32] (by simp [maxLen]))).wider (Nat.le_refl _) (by simp)
      refine hK.out _ _ ?_ (fun hHeld => ?_)
      · exact ⟨(unhide (hide ((unhide K).trans kk))).cell0 p0, (unhide (hide ((unhide K).trans kk))).cell0 p1, (unhide (hide ((unhide K).trans kk))).cell0 p2, (unhide (hide ((unhide K).trans kk))).cell0 p3, (unhide (hide ((unhide K).trans kk))).cell0 p4, (unhide (hide ((unhide K).trans kk))).cell0 p5⟩
      clear hHeld hK KK
      exact Eq.mp (hG _ _ _ _) (s_b0_c1_b5_b11 ((w.alloc (.cells #[.int .u8 32] 5))) gb0 cb0 ac1 cc1 gc1 ((some ⟨w.heap.size, 0, none⟩)) 1 (w.heap.size) ab11 cb11 gb11 (hide ((unhide K).trans kk)) (⟨own_kept (unhide Fb0).1 kk, Nat.lt_of_lt_of_le (unhide Fb0).2 kk.size⟩) (⟨(unhide Fc1).1.kept kk (by omega), Nat.lt_of_lt_of_le (unhide Fc1).2 kk.size⟩) nf (⟨(unhide Fb11).1.kept kk (by omega), Nat.lt_of_lt_of_le (unhide Fb11).2 kk.size⟩) Nc1 (fun e => by have := (unhide Fb0).2; have := Nat.le_refl w.heap.size; omega) Nb11)
  have s_b0_b5_b11 : ∀ (w : World) (gb0 cb0 : Nat) (ab5 : Option Addr) (cb5 gb5 : Nat) (ab11 : Option Addr) (cb11 gb11 : Nat) (K : Hid (Kept 0 0 W0 w)) (Fb0 : Hid (w.ownsRow W0.heap.size 5 1 (.slice (some ⟨gb0, 0, none⟩) 1 cb0) ([60] : List Int).length (([60] : List Int).map (Value.int .u8)) ∧ gb0 < w.heap.size)) (Fb5 : Hid (Row .u8 true gb5 (gb5 + 1) w (.slice ab5 1 cb5) ([32] : List Int) ∧ gb5 < w.heap.size)) (Fb11 : Hid (Row .u8 true gb11 (gb11 + 1) w (.slice ab11 1 cb11) ([62] : List Int) ∧ gb11 < w.heap.size)) (Nb5 : Hid (gb5 ≠ gb0)) (Nb11 : Hid (gb11 ≠ gb0)), G 7 #[true, true, true, false, false, true, false, true, true, false, false, true, false, false] { tmps := #[.agg #[.bool s0, .slice qa0 z0.length qc0, .int .i64 y0, .bool s1, .slice qa1 z1.length qc1, .int .i64 y1], .pointer (some ⟨wS.heap.size, 0, none⟩), .slice none 0 0, .slice (some ⟨gb0, 0, none⟩) 1 cb0, .pointer (some ⟨wS.heap.size, 0, none⟩), .agg #[.bool s0, .slice qa0 z0.length qc0, .int .i64 y0], undef, undef, .slice ab5 1 cb5, undef, .pointer (some ⟨wS.heap.size, 3, none⟩), .agg #[.bool s1, .slice qa1 z1.length qc1, .int .i64 y1], undef, undef, .slice ab11 1 cb11, undef], defers := [] } w := by
    intro w gb0 cb0 ab5 cb5 gb5 ab11 cb11 gb11 K Fb0 Fb5 Fb11 Nb5 Nb11
    refine Eq.mpr (hG _ _ _ _) ?_
    refine wpAnyH_ready (rs := [3]) (by kernel_rfl) (by simp) ?_
    refine AllReadyH.cons rfl (fun KK hK => ?_) AllReadyH.nil
    · simp only [List.getElem_toArray, List.getElem_cons_succ, List.getElem_cons_zero]
      rw [if_pos (by rfl)]
      have hc := unhide H0 w (unhide K)
      refine wps1 36 _ _ rfl in_l4dec (.agg #[.bool s0, .slice qa0 z0.length qc0, .int .i64 y0]) rfl hc ?_
      rintro e w2 ⟨v2, rfl, r2, kk⟩
      refine ⟨_, rfl, ?_⟩
      obtain ⟨a2, c2, hv2⟩ := Row.form' r2
      subst hv2
      obtain ⟨g2, hg2, rb2⟩ := row_block1 r2
      have hg2 := hg2 (unhide NE0)
      have nf : Hid (Row .u8 true g2 (g2 + 1) w2 (.slice a2 T0.length c2) T0 ∧ g2 < w2.heap.size) := ⟨rb2, hg2.2⟩
      clear hc r2 rb2
      refine hK.out _ _ ?_ (fun hHeld => ?_)
      · exact ⟨(unhide (hide ((unhide K).trans kk))).cell0 p0, (unhide (hide ((unhide K).trans kk))).cell0 p1, (unhide (hide ((unhide K).trans kk))).cell0 p2, (unhide (hide ((unhide K).trans kk))).cell0 p3, (unhide (hide ((unhide K).trans kk))).cell0 p4, (unhide (hide ((unhide K).trans kk))).cell0 p5⟩
      clear hHeld hK KK
      exact Eq.mp (hG _ _ _ _) (s_b0_c1_b5_b11 w2 gb0 cb0 a2 c2 g2 ab5 cb5 gb5 ab11 cb11 gb11 (hide ((unhide K).trans kk)) (⟨own_kept (unhide Fb0).1 kk, Nat.lt_of_lt_of_le (unhide Fb0).2 kk.size⟩) nf (⟨(unhide Fb5).1.kept kk (by omega), Nat.lt_of_lt_of_le (unhide Fb5).2 kk.size⟩) (⟨(unhide Fb11).1.kept kk (by omega), Nat.lt_of_lt_of_le (unhide Fb11).2 kk.size⟩) (fun e => by have := (unhide Fb0).2; have := hg2.1; omega) Nb5 Nb11)
  have s_c1_b5_b11 : ∀ (w : World) (ac1 : Option Addr) (cc1 gc1 : Nat) (ab5 : Option Addr) (cb5 gb5 : Nat) (ab11 : Option Addr) (cb11 gb11 : Nat) (K : Hid (Kept 0 0 W0 w)) (Fc1 : Hid (Row .u8 true gc1 (gc1 + 1) w (.slice ac1 T0.length cc1) T0 ∧ gc1 < w.heap.size)) (Fb5 : Hid (Row .u8 true gb5 (gb5 + 1) w (.slice ab5 1 cb5) ([32] : List Int) ∧ gb5 < w.heap.size)) (Fb11 : Hid (Row .u8 true gb11 (gb11 + 1) w (.slice ab11 1 cb11) ([62] : List Int) ∧ gb11 < w.heap.size)), G 7 #[false, true, true, true, false, true, false, true, true, false, false, true, false, false] { tmps := #[.agg #[.bool s0, .slice qa0 z0.length qc0, .int .i64 y0, .bool s1, .slice qa1 z1.length qc1, .int .i64 y1], .pointer (some ⟨wS.heap.size, 0, none⟩), .slice none 0 0, undef, .pointer (some ⟨wS.heap.size, 0, none⟩), .agg #[.bool s0, .slice qa0 z0.length qc0, .int .i64 y0], .slice ac1 T0.length cc1, undef, .slice ab5 1 cb5, undef, .pointer (some ⟨wS.heap.size, 3, none⟩), .agg #[.bool s1, .slice qa1 z1.length qc1, .int .i64 y1], undef, undef, .slice ab11 1 cb11, undef], defers := [] } w := by
    intro w ac1 cc1 gc1 ab5 cb5 gb5 ab11 cb11 gb11 K Fc1 Fb5 Fb11
    refine Eq.mpr (hG _ _ _ _) ?_
    refine wpAnyH_ready (rs := [0]) (by kernel_rfl) (by simp) ?_
    refine AllReadyH.cons rfl (fun KK hK => ?_) AllReadyH.nil
    · simp only [List.getElem_toArray, List.getElem_cons_succ, List.getElem_cons_zero]
      rw [if_pos (by rfl)]
      go_simp
      have kk := (Kept.refl 0 0 w).alloc (.cells #[.int .u8 60] 5)
      have nf : Hid ((w.alloc (.cells #[.int .u8 60] 5)).ownsRow W0.heap.size 5 1 (.slice (some ⟨w.heap.size, 0, none⟩) 1 1) ([60] : List Int).length (([60] : List Int).map (Value.int .u8)) ∧ w.heap.size < (w.alloc (.cells #[.int .u8 60] 5)).heap.size) := by
        refine ⟨?_, by simp⟩
        exact own_lit .u8 w 5 _ (unhide K).size [60] (by simp [maxLen])
      refine hK.out _ _ ?_ (fun hHeld => ?_)
      · exact ⟨(unhide (hide ((unhide K).trans kk))).cell0 p0, (unhide (hide ((unhide K).trans kk))).cell0 p1, (unhide (hide ((unhide K).trans kk))).cell0 p2, (unhide (hide ((unhide K).trans kk))).cell0 p3, (unhide (hide ((unhide K).trans kk))).cell0 p4, (unhide (hide ((unhide K).trans kk))).cell0 p5⟩
      clear hHeld hK KK
      exact Eq.mp (hG _ _ _ _) (s_b0_c1_b5_b11 ((w.alloc (.cells #[.int .u8 60] 5))) (w.heap.size) 1 ac1 cc1 gc1 ab5 cb5 gb5 ab11 cb11 gb11 (hide ((unhide K).trans kk)) nf (⟨(unhide Fc1).1.kept kk (by omega), Nat.lt_of_lt_of_le (unhide Fc1).2 kk.size⟩) (⟨(unhide Fb5).1.kept kk (by omega), Nat.lt_of_lt_of_le (unhide Fb5).2 kk.size⟩) (⟨(unhide Fb11).1.kept kk (by omega), Nat.lt_of_lt_of_le (unhide Fb11).2 kk.size⟩) (fun e => by have := (unhide Fc1).2; omega) (fun e => by have := (unhide Fb5).2; omega) (fun e => by have := (unhide Fb11).2; omega))
  have s_b0_c1 : ∀ (w : World) (gb0 cb0 : Nat) (ac1 : Option Addr) (cc1 gc1 : Nat) (K : Hid (Kept 0 0 W0 w)) (Fb0 : Hid (w.ownsRow W0.heap.size 5 1 (.slice (some ⟨gb0, 0, none⟩) 1 cb0) ([60] : List Int).length (([60] : List Int).map (Value.int .u8)) ∧ gb0 < w.heap.size)) (Fc1 : Hid (Row .u8 true gc1 (gc1 + 1) w (.slice ac1 T0.length cc1) T0 ∧ gc1 < w.heap.size)) (Nc1 : Hid (gc1 ≠ gb0)), G 8 #[true, true, true, true, false, false, false, true, true, false, false, false, false, false] { tmps := #[.agg #[.bool s0, .slice qa0 z0.length qc0, .int .i64 y0, .bool s1, .slice qa1 z1.length qc1, .int .i64 y1], .pointer (some ⟨wS.heap.size, 0, none⟩), .slice none 0 0, .slice (some ⟨gb0, 0, none⟩) 1 cb0, .pointer (some ⟨wS.heap.size, 0, none⟩), .agg #[.bool s0, .slice qa0 z0.length qc0, .int .i64 y0], .slice ac1 T0.length cc1, undef, undef, undef, .pointer (some ⟨wS.heap.size, 3, none⟩), .agg #[.bool s1, .slice qa1 z1.length qc1, .int .i64 y1], undef, undef, undef, undef], defers := [] } w := by
    intro w gb0 cb0 ac1 cc1 gc1 K Fb0 Fc1 Nc1
    refine Eq.mpr (hG _ _ _ _) ?_
    refine wpAnyH_ready (rs := [4, 5, 11]) (by kernel_rfl) (by simp) ?_
    refine AllReadyH.cons rfl (fun KK hK => ?_) (AllReadyH.cons rfl (fun KK hK => ?_) (AllReadyH.cons rfl (fun KK hK => ?_) AllReadyH.nil))
    · simp only [List.getElem_toArray, List.getElem_cons_succ, List.getElem_cons_zero]
      rw [if_pos (by rfl)]
      have ow := unhide Fb0
      have rr := unhide Fc1
      refine wp_cat (v1 := .slice (some ⟨gb0, 0, none⟩) 1 cb0) (v2 := .slice ac1 T0.length cc1) _ _ rfl rfl rfl (zs := ([60] : List Int)) (ts := T0) (b := W0.heap.size) ow.1 rr.1 (unhide NE0) (unhide K).size (unhide LS0) (unhide LT0) ?_
      intro v2 w2 o2 g2 e2
      rw [← unhide ES1] at o2
      obtain ⟨gn, cn, hv2⟩ := own_some8 (unhide PS1) o2
      subst hv2
      have hgn : gn = gb0 ∨ gn = w.heap.size := e2.imp (fun e => Option.some.inj e) (fun e => Option.some.inj e)
      have K2 := hide ((unhide K).growNew g2 (fun q hq => (ow.1.lt q hq).1))
      have nf : Hid (w2.ownsRow W0.heap.size 5 1 (.slice (some ⟨gn, 0, none⟩) S1.length cn) S1.length (S1.map (Value.int .u8)) ∧ gn < w2.heap.size) := ⟨o2, (o2.lt gn rfl).2⟩
      refine hK.out _ _ ?_ (fun hHeld => ?_)
      · exact ⟨(unhide K2).cell0 p0, (unhide K2).cell0 p1, (unhide K2).cell0 p2, (unhide K2).cell0 p3, (unhide K2).cell0 p4, (unhide K2).cell0 p5⟩
      clear hHeld hK KK
      exact Eq.mp (hG _ _ _ _) (s_b0_c1_a1 w2 (.slice (some ⟨gb0, 0, none⟩) 1 cb0) (.slice ac1 T0.length cc1) gn cn K2 nf)
    · simp only [List.getElem_toArray, List.getElem_cons_succ, List.getElem_cons_zero]
      rw [if_pos (by rfl)]
      go_simp
      have kk := (Kept.refl 0 0 w).alloc (.cells #[.int .u8 32] 5)
      have nf : Hid (Row .u8 true w.heap.size (w.heap.size + 1) (w.alloc (.cells #[.int .u8 32] 5)) (.slice (some ⟨w.heap.size, 0, none⟩) 1 1) ([32] : List Int) ∧ w.heap.size < (w.alloc (.cells #[.int .u8 32] 5)).heap.size) := by
        refine ⟨?_, by simp⟩
        exact (Row.own (own_lit .u8 w 5 w.heap.size (Nat.le_refl _) [32] (by simp [maxLen]))).wider (Nat.le_refl _) (by simp)
      refine hK.out _ _ ?_ (fun hHeld => ?_)
      · exact ⟨(unhide (hide ((unhide K).trans kk))).cell0 p0, (unhide (hide ((unhide K).trans kk))).cell0 p1, (unhide (hide ((unhide K).trans kk))).cell0 p2, (unhide (hide ((unhide K).trans kk))).cell0 p3, (unhide (hide ((unhide K).trans kk))).cell0 p4, (unhide (hide ((unhide K).trans kk))).cell0 p5⟩
      clear hHeld hK KK
      exact Eq.mp (hG _ _ _ _) (s_b0_c1_b5 ((w.alloc (.cells #[.int .u8 32] 5))) gb0 cb0 ac1 cc1 gc1 ((some ⟨w.heap.size, 0, none⟩)) 1 (w.heap.size) (hide ((unhide K).trans kk)) (⟨own_kept (unhide Fb0).1 kk, Nat.lt_of_lt_of_le (unhide Fb0).2 kk.size⟩) (⟨(unhide Fc1).1.kept kk (by omega), Nat.lt_of_lt_of_le (unhide Fc1).2 kk.size⟩) nf Nc1 (fun e => by have := (unhide Fb0).2; have := Nat.le_refl w.heap.size; omega))
    · simp only [List.getElem_toArray, List.getElem_cons_succ, List.getElem_cons_zero]
      rw [if_pos (by rfl)]
      go_simp
      have kk := (Kept.refl 0 0 w).alloc (.cells #[.int .u8 62] 5)
      have nf : Hid (Row .u8 true w.heap.size (w.heap.size + 1) (w.alloc (.cells #[.int .u8 62] 5)) (.slice (some ⟨w.heap.size, 0, none⟩) 1 1) ([62] : List Int) ∧ w.heap.size < (w.alloc (.cells #[.int .u8 62] 5)).heap.size) := by
        refine ⟨?_, by simp⟩
        exact (Row.own (own_lit .u8 w 5 w.heap.size (Nat.le_refl _) [62] (by simp [maxLen]))).wider (Nat.le_refl _) (by simp)
      refine hK.out _ _ ?_ (fun hHeld => ?_)
      · exact ⟨(unhide (hide ((unhide K).trans kk))).cell0 p0, (unhide (hide ((unhide K).trans kk))).cell0 p1, (unhide (hide ((unhide K).trans kk))).cell0 p2, (unhide (hide ((unhide K).trans kk))).cell0 p3, (unhide (hide ((unhide K).trans kk))).cell0 p4, (unhide (hide ((unhide K).trans kk))).cell0 p5⟩
      clear hHeld hK KK
      exact Eq.mp (hG _ _ _ _) (s_b0_c1_b11 ((w.alloc (.cells #[.int .u8 62] 5))) gb0 cb0 ac1 cc1 gc1 ((some ⟨w.heap.size, 0, none⟩)) 1 (w.heap.size) (hide ((unhide K).trans kk)) (⟨own_kept (unhide Fb0).1 kk, Nat.lt_of_lt_of_le (unhide Fb0).2 kk.size⟩) (⟨(unhide Fc1).1.kept kk (by omega), Nat.lt_of_lt_of_le (unhide Fc1).2 kk.size⟩) nf Nc1 (fun e => by have := (unhide Fb0).2; have := Nat.le_refl w.heap.size; omega))
  have s_b0_b5 : ∀ (w : World) (gb0 cb0 : Nat) (ab5 : Option Addr) (cb5 gb5 : Nat) (K : Hid (Kept 0 0 W0 w)) (Fb0 : Hid (w.ownsRow W0.heap.size 5 1 (.slice (some ⟨gb0, 0, none⟩) 1 cb0) ([60] : List Int).length (([60] : List Int).map (Value.int .u8)) ∧ gb0 < w.heap.size)) (Fb5 : Hid (Row .u8 true gb5 (gb5 + 1) w (.slice ab5 1 cb5) ([32] : List Int) ∧ gb5 < w.heap.size)) (Nb5 : Hid (gb5 ≠ gb0)), G 8 #[true, true, true, false, false, true, false, true, true, false, false, false, false, false] { tmps := #[.agg #[.bool s0, .slice qa0 z0.length qc0, .int .i64 y0, .bool s1, .slice qa1 z1.length qc1, .int .i64 y1], .pointer (some ⟨wS.heap.size, 0, none⟩), .slice none 0 0, .slice (some ⟨gb0, 0, none⟩) 1 cb0, .pointer (some ⟨wS.heap.size, 0, none⟩), .agg #[.bool s0, .slice qa0 z0.length qc0, .int .i64 y0], undef, undef, .slice ab5 1 cb5, undef, .pointer (some ⟨wS.heap.size, 3, none⟩), .agg #[.bool s1, .slice qa1 z1.length qc1, .int .i64 y1], undef, undef, undef, undef], defers := [] } w := by
    intro w gb0 cb0 ab5 cb5 gb5 K Fb0 Fb5 Nb5
    refine Eq.mpr (hG _ _ _ _) ?_
    refine wpAnyH_ready (rs := [3, 11]) (by kernel_rfl) (by simp) ?_
    refine AllReadyH.cons rfl (fun KK hK => ?_) (AllReadyH.cons rfl (fun KK hK => ?_) AllReadyH.nil)
    · simp only [List.getElem_toArray, List.getElem_cons_succ, List.getElem_cons_zero]
      rw [if_pos (by rfl)]
      have hc := unhide H0 w (unhide K)
      refine wps1 36 _ _ rfl in_l4dec (.agg #[.bool s0, .slice qa0 z0.length qc0, .int .i64 y0]) rfl hc ?_
      rintro e w2 ⟨v2, rfl, r2, kk⟩
      refine ⟨_, rfl, ?_⟩
      obtain ⟨a2, c2, hv2⟩ := Row.form' r2
      subst hv2
      obtain ⟨g2, hg2, rb2⟩ := row_block1 r2
      have hg2 := hg2 (unhide NE0)
      have nf : Hid (Row .u8 true g2 (g2 + 1) w2 (.slice a2 T0.length c2) T0 ∧ g2 < w2.heap.size) := ⟨rb2, hg2.2⟩
      clear hc r2 rb2
      refine hK.out _ _ ?_ (fun hHeld => ?_)
      · exact ⟨(unhide (hide ((unhide K).trans kk))).cell0 p0, (unhide (hide ((unhide K).trans kk))).cell0 p1, (unhide (hide ((unhide K).trans kk))).cell0 p2, (unhide (hide ((unhide K).trans kk))).cell0 p3, (unhide (hide ((unhide K).trans kk))).cell0 p4, (unhide (hide ((unhide K).trans kk))).cell0 p5⟩
      clear hHeld hK KK
      exact Eq.mp (hG _ _ _ _) (s_b0_c1_b5 w2 gb0 cb0 a2 c2 g2 ab5 cb5 gb5 (hide ((unhide K).trans kk)) (⟨own_kept (unhide Fb0).1 kk, Nat.lt_of_lt_of_le (unhide Fb0).2 kk.size⟩) nf (⟨(unhide Fb5).1.kept kk (by omega), Nat.lt_of_lt_of_le (unhide Fb5).2 kk.size⟩) (fun e => by have := (unhide Fb0).2; have := hg2.1; omega) Nb5)
    · simp only [List.getElem_toArray, List.getElem_cons_succ, List.getElem_cons_zero]
      rw [if_pos (by rfl)]
      go_simp
      have kk := (Kept.refl 0 0 w).alloc (.cells #[.int .u8 62] 5)
      have nf : Hid (Row .u8 true w.heap.size (w.heap.size + 1) (w.alloc (.cells #[.int .u8 62] 5)) (.slice (some ⟨w.heap.size, 0, none⟩) 1 1) ([62] : List Int) ∧ w.heap.size < (w.alloc (.cells #[.int .u8 62] 5)).heap.size) := by
        refine ⟨?_, by simp⟩
        exact (Row.own (own_lit .u8 w 5 w.heap.size (Nat.le_refl _) [62] (by simp [maxLen]))).wider (Nat.le_refl _) (by simp)
      refine hK.out _ _ ?_ (fun hHeld => ?_)
      · exact ⟨(unhide (hide ((unhide K).trans kk))).cell0 p0, (unhide (hide ((unhide K).trans kk))).cell0 p1, (unhide (hide ((unhide K).trans kk))).cell0 p2, (unhide (hide ((unhide K).trans kk))).cell0 p3, (unhide (hide ((unhide K).trans kk))).cell0 p4, (unhide (hide ((unhide K).trans kk))).cell0 p5⟩
      clear hHeld hK KK
      exact Eq.mp (hG _ _ _ _) (s_b0_b5_b11 ((w.alloc (.cells #[.int .u8 62] 5))) gb0 cb0 ab5 cb5 gb5 ((some ⟨w.heap.size, 0, none⟩)) 1 (w.heap.size) (hide ((unhide K).trans kk)) (⟨own_kept (unhide Fb0).1 kk, Nat.lt_of_lt_of_le (unhide Fb0).2 kk.size⟩) (⟨(unhide Fb5).1.kept kk (by omega), Nat.lt_of_lt_of_le (unhide Fb5).2 kk.size⟩) nf Nb5 (fun e => by have := (unhide Fb0).2; have := Nat.le_refl w.heap.size; omega))
  have s_b0_b11 : ∀ (w : World) (gb0 cb0 : Nat) (ab11 : Option Addr) (cb11 gb11 : Nat) (K : Hid (Kept 0 0 W0 w)) (Fb0 : Hid (w.ownsRow W0.heap.size 5 1 (.slice (some ⟨gb0, 0, none⟩) 1 cb0) ([60] : List Int).length (([60] : List Int).map (Value.int .u8)) ∧ gb0 < w.heap.size)) (Fb11 : Hid (Row .u8 true gb11 (gb11 + 1) w (.slice ab11 1 cb11) ([62] : List Int) ∧ gb11 < w.heap.size)) (Nb11 : Hid (gb11 ≠ gb0)), G 8 #[true, true, true, false, false, false, false, true, true, false, false, true, false, false] { tmps := #[.agg #[.bool s0, .slice qa0 z0.length qc0, .int .i64 y0, .bool s1, .slice qa1 z1.length qc1, .int .i64 y1], .pointer (some ⟨wS.heap.size, 0, none⟩), .slice none 0 0, .slice (some ⟨gb0, 0, none⟩) 1 cb0, .pointer (some ⟨wS.heap.size, 0, none⟩), .agg #[.bool s0, .slice qa0 z0.length qc0, .int .i64 y0], undef, undef, undef, undef, .pointer (some ⟨wS.heap.size, 3, none⟩), .agg #[.bool s1, .slice qa1 z1.length qc1, .int .i64 y1], undef, undef, .slice ab11 1 cb11, undef], defers := [] } w := by
    intro w gb0 cb0 ab11 cb11 gb11 K Fb0 Fb11 Nb11
    refine Eq.mpr (hG _ _ _ _) ?_
    refine wpAnyH_ready (rs := [3, 5]) (by kernel_rfl) (by simp) ?_
    refine AllReadyH.cons rfl (fun KK hK => ?_) (AllReadyH.cons rfl (fun KK hK => ?_) AllReadyH.nil)
    · simp only [List.getElem_toArray, List.getElem_cons_succ, List.getElem_cons_zero]
      rw [if_pos (by rfl)]
      have hc := unhide H0 w (unhide K)
      refine wps1 36 _ _ rfl in_l4dec (.agg #[.bool s0, .slice qa0 z0.length qc0, .int .i64 y0]) rfl hc ?_
      rintro e w2 ⟨v2, rfl, r2, kk⟩
      refine ⟨_, rfl, ?_⟩
      obtain ⟨a2, c2, hv2⟩ := Row.form' r2
      subst hv2
      obtain ⟨g2, hg2, rb2⟩ := row_block1 r2
      have hg2 := hg2 (unhide NE0)
      have nf : Hid (Row .u8 true g2 (g2 + 1) w2 (.slice a2 T0.length c2) T0 ∧ g2 < w2.heap.size) := ⟨rb2, hg2.2⟩
      clear hc r2 rb2
      refine hK.out _ _ ?_ (fun hHeld => ?_)
      · exact ⟨(unhide (hide ((unhide K).trans kk))).cell0 p0, (unhide (hide ((unhide K).trans kk))).cell0 p1, (unhide (hide ((unhide K).trans kk))).cell0 p2, (unhide (hide ((unhide K).trans kk))).cell0 p3, (unhide (hide ((unhide K).trans kk))).cell0 p4, (unhide (hide ((unhide K).trans kk))).cell0 p5⟩
      clear hHeld hK KK
      exact Eq.mp (hG _ _ _ _) (s_b0_c1_b11 w2 gb0 cb0 a2 c2 g2 ab11 cb11 gb11 (hide ((unhide K).trans kk)) (⟨own_kept (unhide Fb0).1 kk, Nat.lt_of_lt_of_le (unhide Fb0).2 kk.size⟩) nf (⟨(unhide Fb11).1.kept kk (by omega), Nat.lt_of_lt_of_le (unhide Fb11).2 kk.size⟩) (fun e => by have := (unhide Fb0).2; have := hg2.1; omega) Nb11)
    · simp only [List.getElem_toArray, List.getElem_cons_succ, List.getElem_cons_zero]
      rw [if_pos (by rfl)]
      go_simp
      have kk := (Kept.refl 0 0 w).alloc (.cells #[.int .u8 32] 5)
      have nf : Hid (Row .u8 true w.heap.size (w.heap.size + 1) (w.alloc (.cells #[.int .u8 32] 5)) (.slice (some ⟨w.heap.size, 0, none⟩) 1 1) ([32] : List Int) ∧ w.heap.size < (w.alloc (.cells #[.int .u8 32] 5)).heap.size) := by
        refine ⟨?_, by simp⟩
        exact (Row.own (own_lit .u8 w 5 w.heap.size (Nat.le_refl _) [32] (by simp [maxLen]))).wider (Nat.le_refl _) (by simp)
      refine hK.out _ _ ?_ (fun hHeld => ?_)
      · exact ⟨(unhide (hide ((unhide K).trans kk))).cell0 p0, (unhide (hide ((unhide K).trans kk))).cell0 p1, (unhide (hide ((unhide K).trans kk))).cell0 p2, (unhide (hide ((unhide K).trans kk))).cell0 p3, (unhide (hide ((unhide K).trans kk))).cell0 p4, (unhide (hide ((unhide K).trans kk))).cell0 p5⟩
      clear hHeld hK KK
      exact Eq.mp (hG _ _ _ _) (s_b0_b5_b11 ((w.alloc (.cells #[.int .u8 32] 5))) gb0 cb0 ((some ⟨w.heap.size, 0, none⟩)) 1 (w.heap.size) ab11 cb11 gb11 (hide ((unhide K).trans kk)) (⟨own_kept (unhide Fb0).1 kk, Nat.lt_of_lt_of_le (unhide Fb0).2 kk.size⟩) nf (⟨(unhide Fb11).1.kept kk (by omega), Nat.lt_of_lt_of_le (unhide Fb11).2 kk.size⟩) (fun e => by have := (unhide Fb0).2; have := Nat.le_refl w.heap.size; omega) Nb11)
  have s_c1_b5 : ∀ (w : World) (ac1 : Option Addr) (cc1 gc1 : Nat) (ab5 : Option Addr) (cb5 gb5 : Nat) (K : Hid (Kept 0 0 W0 w)) (Fc1 : Hid (Row .u8 true gc1 (gc1 + 1) w (.slice ac1 T0.length cc1) T0 ∧ gc1 < w.heap.size)) (Fb5 : Hid (Row .u8 true gb5 (gb5 + 1) w (.slice ab5 1 cb5) ([32] : List Int) ∧ gb5 < w.heap.size)), G 8 #[false, true, true, true, false, true, false, true, true, false, false, false, false, false] { tmps := #[.agg #[.bool s0, .slice qa0 z0.length qc0, .int .i64 y0, .bool s1, .slice qa1 z1.length qc1, .int .i64 y1], .pointer (some ⟨wS.heap.size, 0, none⟩), .slice none 0 0, undef, .pointer (some ⟨wS.heap.size, 0, none⟩), .agg #[.bool s0, .slice qa0 z0.length qc0, .int .i64 y0], .slice ac1 T0.length cc1, undef, .slice ab5 1 cb5, undef, .pointer (some ⟨wS.heap.size, 3, none⟩), .agg #[.bool s1, .slice qa1 z1.length qc1, .int .i64 y1], undef, undef, undef, undef], defers := [] } w := by
    intro w ac1 cc1 gc1 ab5 cb5 gb5 K Fc1 Fb5
    refine Eq.mpr (hG _ _ _ _) ?_
    refine wpAnyH_ready (rs := [0, 11]) (by kernel_rfl) (by simp) ?_
    refine AllReadyH.cons rfl (fun KK hK => ?_) (AllReadyH.cons rfl (fun KK hK => ?_) AllReadyH.nil)
    · simp only [List.getElem_toArray, List.getElem_cons_succ, List.getElem_cons_zero]
      rw [if_pos (by rfl)]
      go_simp
      have kk := (Kept.refl 0 0 w).alloc (.cells #[.int .u8 60] 5)
      have nf : Hid ((w.alloc (.cells #[.int .u8 60] 5)).ownsRow W0.heap.size 5 1 (.slice (some ⟨w.heap.size, 0, none⟩) 1 1) ([60] : List Int).length (([60] : List Int).map (Value.int .u8)) ∧ w.heap.size < (w.alloc (.cells #[.int .u8 60] 5)).heap.size) := by
        refine ⟨?_, by simp⟩
        exact own_lit .u8 w 5 _ (unhide K).size [60] (by simp [maxLen])
      refine hK.out _ _ ?_ (fun hHeld => ?_)
      · exact ⟨(unhide (hide ((unhide K).trans kk))).cell0 p0, (unhide (hide ((unhide K).trans kk))).cell0 p1, (unhide (hide ((unhide K).trans kk))).cell0 p2, (unhide (hide ((unhide K).trans kk))).cell0 p3, (unhide (hide ((unhide K).trans kk))).cell0 p4, (unhide (hide ((unhide K).trans kk))).cell0 p5⟩
      clear hHeld hK KK
      exact Eq.mp (hG _ _ _ _) (s_b0_c1_b5 ((w.alloc (.cells #[.int .u8 60] 5))) (w.heap.size) 1 ac1 cc1 gc1 ab5 cb5 gb5 (hide ((unhide K).trans kk)) nf (⟨(unhide Fc1).1.kept kk (by omega), Nat.lt_of_lt_of_le (unhide Fc1).2 kk.size⟩) (⟨(unhide Fb5).1.kept kk (by omega), Nat.lt_of_lt_of_le (unhide Fb5).2 kk.size⟩) (fun e => by have := (unhide Fc1).2; omega) (fun e => by have := (unhide Fb5).2; omega))
    · simp only [List.getElem_toArray, List.getElem_cons_succ, List.getElem_cons_zero]
      rw [if_pos (by rfl)]
      go_simp
      have kk := (Kept.refl 0 0 w).alloc (.cells #[.int .u8 62] 5)
      have nf : Hid (Row .u8 true w.heap.size (w.heap.size + 1) (w.alloc (.cells #[.int .u8 62] 5)) (.slice (some ⟨w.heap.size, 0, none⟩) 1 1) ([62] : List Int) ∧ w.heap.size < (w.alloc (.cells #[.int .u8 62] 5)).heap.size) := by
        refine ⟨?_, by simp⟩
        exact (Row.own (own_lit .u8 w 5 w.heap.size (Nat.le_refl _) [62] (by simp [maxLen]))).wider (Nat.le_refl _) (by simp)
      refine hK.out _ _ ?_ (fun hHeld => ?_)
      · exact ⟨(unhide (hide ((unhide K).trans kk))).cell0 p0, (unhide (hide ((unhide K).trans kk))).cell0 p1, (unhide (hide ((unhide K).trans kk))).cell0 p2, (unhide (hide ((unhide K).trans kk))).cell0 p3, (unhide (hide ((unhide K).trans kk))).cell0 p4, (unhide (hide ((unhide K).trans kk))).cell0 p5⟩
      clear hHeld hK KK
      exact Eq.mp (hG _ _ _ _) (s_c1_b5_b11 ((w.alloc (.cells #[.int .u8 62] 5))) ac1 cc1 gc1 ab5 cb5 gb5 ((some ⟨w.heap.size, 0, none⟩)) 1 (w.heap.size) (hide ((unhide K).trans kk)) (⟨(unhide Fc1).1.kept kk (by omega), Nat.lt_of_lt_of_le (unhide Fc1).2 kk.size⟩) (⟨(unhide Fb5).1.kept kk (by omega), Nat.lt_of_lt_of_le (unhide Fb5).2 kk.size⟩) nf)
  have s_c1_b11 : ∀ (w : World) (ac1 : Option Addr) (cc1 gc1 : Nat) (ab11 : Option Addr) (cb11 gb11 : Nat) (K : Hid (Kept 0 0 W0 w)) (Fc1 : Hid (Row .u8 true gc1 (gc1 + 1) w (.slice ac1 T0.length cc1) T0 ∧ gc1 < w.heap.size)) (Fb11 : Hid (Row .u8 true gb11 (gb11 + 1) w (.slice ab11 1 cb11) ([62] : List Int) ∧ gb11 < w.heap.size)), G 8 #[false, true, true, true, false, false, false, true, true, false, false, true, false, false] { tmps := #[.agg #[.bool s0, .slice qa0 z0.length qc0, .int .i64 y0, .bool s1, .slice qa1 z1.length qc1, .int .i64 y1], .pointer (some ⟨wS.heap.size, 0, none⟩), .slice none 0 0, undef, .pointer (some ⟨wS.heap.size, 0, none⟩), .agg #[.bool s0, .slice qa0 z0.length qc0, .int .i64 y0], .slice ac1 T0.length cc1, undef, undef, undef, .pointer (some ⟨wS.heap.size, 3, none⟩), .agg #[.bool s1, .slice qa1 z1.length qc1, .int .i64 y1], undef, undef, .slice ab11 1 cb11, undef], defers := [] } w := by
    intro w ac1 cc1 gc1 ab11 cb11 gb11 K Fc1 Fb11
    refine Eq.mpr (hG _ _ _ _) ?_
    refine wpAnyH_ready (rs := [0, 5]) (by kernel_rfl) (by simp) ?_
    refine AllReadyH.cons rfl (fun KK hK => ?_) (AllReadyH.cons rfl (fun KK hK => ?_) AllReadyH.nil)
    · simp only [List.getElem_toArray, List.getElem_cons_succ, List.getElem_cons_zero]
      rw [if_pos (by rfl)]
      go_simp
      have kk := (Kept.refl 0 0 w).alloc (.cells #[.int .u8 60] 5)
      have nf : Hid ((w.alloc (.cells #[.int .u8 60] 5)).ownsRow W0.heap.size 5 1 (.slice (some ⟨w.heap.size, 0, none⟩) 1 1) ([60] : List Int).length (([60] : List Int).map (Value.int .u8)) ∧ w.heap.size < (w.alloc (.cells #[.int .u8 60] 5)).heap.size) := by
        refine ⟨?_, by simp⟩
        exact own_lit .u8 w 5 _ (unhide K).size [60] (by simp [maxLen])
      refine hK.out _ _ ?_ (fun hHeld => ?_)
      · exact ⟨(unhide (hide ((unhide K).trans kk))).cell0 p0, (unhide (hide ((unhide K).trans kk))).cell0 p1, (unhide (hide ((unhide K).trans kk))).cell0 p2, (unhide (hide ((unhide K).trans kk))).cell0 p3, (unhide (hide ((unhide K).trans kk))).cell0 p4, (unhide (hide ((unhide K).trans kk))).cell0 p5⟩
      clear hHeld hK KK
      exact Eq.mp (hG _ _ _ _) (s_b0_c1_b11 ((w.alloc (.cells #[.int .u8 60] 5))) (w.heap.size) 1 ac1 cc1 gc1 ab11 cb11 gb11 (hide ((unhide K).trans kk)) nf (⟨(unhide Fc1).1.kept kk (by omega), Nat.lt_of_lt_of_le (unhide Fc1).2 kk.size⟩) (⟨(unhide Fb11).1.kept kk (by omega), Nat.lt_of_lt_of_le (unhide Fb11).2 kk.size⟩) (fun e => by have := (unhide Fc1).2; omega) (fun e => by have := (unhide Fb11).2; omega))
    · simp only [List.getElem_toArray, List.getElem_cons_succ, List.getElem_cons_zero]
      rw [if_pos (by rfl)]
      go_simp
      have kk := (Kept.refl 0 0 w).alloc (.cells #[.int .u8 32] 5)
      have nf : Hid (Row .u8 true w.heap.size (w.heap.size + 1) (w.alloc (.cells #[.int .u8 32] 5)) (.slice (some ⟨w.heap.size, 0, none⟩) 1 1) ([32] : List Int) ∧ w.heap.size < (w.alloc (.cells #[.int .u8 32] 5)).heap.size) := by
        refine ⟨?_, by simp⟩
        exact (Row.own (own_lit .u8 w 5 w.heap.size (Nat.le_refl _) [32] (by simp [maxLen]))).wider (Nat.le_refl _) (by simp)
      refine hK.out _ _ ?_ (fun hHeld => ?_)
      · exact ⟨(unhide (hide ((unhide K).trans kk))).cell0 p0, (unhide (hide ((unhide K).trans kk))).cell0 p1, (unhide (hide ((unhide K).trans kk))).cell0 p2, (unhide (hide ((unhide K).trans kk))).cell0 p3, (unhide (hide ((unhide K).trans kk))).cell0 p4, (unhide (hide ((unhide K).trans kk))).cell0 p5⟩
      clear hHeld hK KK
      exact Eq.mp (hG _ _ _ _) (s_c1_b5_b11 ((w.alloc (.cells #[.int .u8 32] 5))) ac1 cc1 gc1 ((some ⟨w.heap.size, 0, none⟩)) 1 (w.heap.size) ab11 cb11 gb11 (hide ((unhide K).trans kk)) (⟨(unhide Fc1).1.kept kk (by omega), Nat.lt_of_lt_of_le (unhide Fc1).2 kk.size⟩) nf (⟨(unhide Fb11).1.kept kk (by omega), Nat.lt_of_lt_of_le (unhide Fb11).2 kk.size⟩))
  have s_b5_b11 : ∀ (w : World) (ab5 : Option Addr) (cb5 gb5 : Nat) (ab11 : Option Addr) (cb11 gb11 : Nat) (K : Hid (Kept 0 0 W0 w)) (Fb5 : Hid (Row .u8 true gb5 (gb5 + 1) w (.slice ab5 1 cb5) ([32] : List Int) ∧ gb5 < w.heap.size)) (Fb11 : Hid (Row .u8 true gb11 (gb11 + 1) w (.slice ab11 1 cb11) ([62] : List Int) ∧ gb11 < w.heap.size)), G 8 #[false, true, true, false, false, true, false, true, true, false, false, true, false, false] { tmps := #[.agg #[.bool s0, .slice qa0 z0.length qc0, .int .i64 y0, .bool s1, .slice qa1 z1.length qc1, .int .i64 y1], .pointer (some ⟨wS.heap.size, 0, none⟩), .slice none 0 0, undef, .pointer (some ⟨wS.heap.size, 0, none⟩), .agg #[.bool s0, .slice qa0 z0.length qc0, .int .i64 y0], undef, undef, .slice ab5 1 cb5, undef, .pointer (some ⟨wS.heap.size, 3, none⟩), .agg #[.bool s1, .slice qa1 z1.length qc1, .int .i64 y1], undef, undef, .slice ab11 1 cb11, undef], defers := [] } w := by
    intro w ab5 cb5 gb5 ab11 cb11 gb11 K Fb5 Fb11
    refine Eq.mpr (hG _ _ _ _) ?_
    refine wpAnyH_ready (rs := [0, 3]) (by kernel_rfl) (by simp) ?_
    refine AllReadyH.cons rfl (fun KK hK => ?_) (AllReadyH.cons rfl (fun KK hK => ?_) AllReadyH.nil)
    · simp only [List.getElem_toArray, List.getElem_cons_succ, List.getElem_cons_zero]
      rw [if_pos (by rfl)]
      go_simp
      have kk := (Kept.refl 0 0 w).alloc (.cells #[.int .u8 60] 5)
      have nf : Hid ((w.alloc (.cells #[.int .u8 60] 5)).ownsRow W0.heap.size 5 1 (.slice (some ⟨w.heap.size, 0, none⟩) 1 1) ([60] : List Int).length (([60] : List Int).map (Value.int .u8)) ∧ w.heap.size < (w.alloc (.cells #[.int .u8 60] 5)).heap.size) := by
        refine ⟨?_, by simp⟩
        exact own_lit .u8 w 5 _ (unhide K).size [60] (by simp [maxLen])
      refine hK.out _ _ ?_ (fun hHeld => ?_)
      · exact ⟨(unhide (hide ((unhide K).trans kk))).cell0 p0, (unhide (hide ((unhide K).trans kk))).cell0 p1, (unhide (hide ((unhide K).trans kk))).cell0 p2, (unhide (hide ((unhide K).trans kk))).cell0 p3, (unhide (hide ((unhide K).trans kk))).cell0 p4, (unhide (hide ((unhide K).trans kk))).cell0 p5⟩
      clear hHeld hK KK
      exact Eq.mp (hG _ _ _ _) (s_b0_b5_b11 ((w.alloc (.cells #[.int .u8 60] 5))) (w.heap.size) 1 ab5 cb5 gb5 ab11 cb11 gb11 (hide ((unhide K).trans kk)) nf (⟨(unhide Fb5).1.kept kk (by omega), Nat.lt_of_lt_of_le (unhide Fb5).2 kk.size⟩) (⟨(unhide Fb11).1.kept kk (by omega), Nat.lt_of_lt_of_le (unhide Fb11).2 kk.size⟩) (fun e => by have := (unhide Fb5).2; omega) (fun e => by have := (unhide Fb11).2; omega))
    · simp only [List.getElem_toArray, List.getElem_cons_succ, List.getElem_cons_zero]
      rw [if_pos (by rfl)]
      have hc := unhide H0 w (unhide K)
      refine wps1 36 _ _ rfl in_l4dec (.agg #[.bool s0, .slice qa0 z0.length qc0, .int .i64 y0]) rfl hc ?_
      rintro e w2 ⟨v2, rfl, r2, kk⟩
      refine ⟨_, rfl, ?_⟩
      obtain ⟨a2, c2, hv2⟩ := Row.form' r2
      subst hv2
      obtain ⟨g2, hg2, rb2⟩ := row_block1 r2
      have hg2 := hg2 (unhide NE0)
      have nf : Hid (Row .u8 true g2 (g2 + 1) w2 (.slice a2 T0.length c2) T0 ∧ g2 < w2.heap.size) := ⟨rb2, hg2.2⟩
      clear hc r2 rb2
      refine hK.out _ _ ?_ (fun hHeld => ?_)
      · exact ⟨(unhide (hide ((unhide K).trans kk))).cell0 p0, (unhide (hide ((unhide K).trans kk))).cell0 p1, (unhide (hide ((unhide K).trans kk))).cell0 p2, (unhide (hide ((unhide K).trans kk))).cell0 p3, (unhide (hide ((unhide K).trans kk))).cell0 p4, (unhide (hide ((unhide K).trans kk))).cell0 p5⟩
      clear hHeld hK KK
      exact Eq.mp (hG _ _ _ _) (s_c1_b5_b11 w2 a2 c2 g2 ab5 cb5 gb5 ab11 cb11 gb11 (hide ((unhide K).trans kk)) nf (⟨(unhide Fb5).1.kept kk (by omega), Nat.lt_of_lt_of_le (unhide Fb5).2 kk.size⟩) (⟨(unhide Fb11).1.kept kk (by omega), Nat.lt_of_lt_of_le (unhide Fb11).2 kk.size⟩))
  have s_b0 : ∀ (w : World) (gb0 cb0 : Nat) (K : Hid (Kept 0 0 W0 w)) (Fb0 : Hid (w.ownsRow W0.heap.size 5 1 (.slice (some ⟨gb0, 0, none⟩) 1 cb0) ([60] : List Int).length (([60] : List Int).map (Value.int .u8)) ∧ gb0 < w.heap.size)), G 9 #[true, true, true, false, false, false, false, true, true, false, false, false, false, false] { tmps := #[.agg #[.bool s0, .slice qa0 z0.length qc0, .int .i64 y0, .bool s1, .slice qa1 z1.length qc1, .int .i64 y1], .pointer (some ⟨wS.heap.size, 0, none⟩), .slice none 0 0, .slice (some ⟨gb0, 0, none⟩) 1 cb0, .pointer (some ⟨wS.heap.size, 0, none⟩), .agg #[.bool s0, .slice qa0 z0.length qc0, .int .i64 y0], undef, undef, undef, undef, .pointer (some ⟨wS.heap.size, 3, none⟩), .agg #[.bool s1, .slice qa1 z1.length qc1, .int .i64 y1], undef, undef, undef, undef], defers := [] } w := by
    intro w gb0 cb0 K Fb0
    refine Eq.mpr (hG _ _ _ _) ?_
    refine wpAnyH_ready (rs := [3, 5, 11]) (by kernel_rfl) (by simp) ?_
    refine AllReadyH.cons rfl (fun KK hK => ?_) (AllReadyH.cons rfl (fun KK hK => ?_) (AllReadyH.cons rfl (fun KK hK => ?_) AllReadyH.nil))
    · simp only [List.getElem_toArray, List.getElem_cons_succ, List.getElem_cons_zero]
      rw [if_pos (by rfl)]
      have hc := unhide H0 w (unhide K)
      refine wps1 36 _ _ rfl in_l4dec (.agg #[.bool s0, .slice qa0 z0.length qc0, .int .i64 y0]) rfl hc ?_
      rintro e w2 ⟨v2, rfl, r2, kk⟩
      refine ⟨_, rfl, ?_⟩
      obtain ⟨a2, c2, hv2⟩ := Row.form' r2
      subst hv2
      obtain ⟨g2, hg2, rb2⟩ := row_block1 r2
      have hg2 := hg2 (unhide NE0)
      have nf : Hid (Row .u8 true g2 (g2 + 1) w2 (.slice a2 T0.length c2) T0 ∧ g2 < w2.heap.size) := ⟨rb2, hg2.2⟩
      clear hc r2 rb2
      refine hK.out _ _ ?_ (fun hHeld => ?_)
      · exact ⟨(unhide (hide ((unhide K).trans kk))).cell0 p0, (unhide (hide ((unhide K).trans kk))).cell0 p1, (unhide (hide ((unhide K).trans kk))).cell0 p2, (unhide (hide ((unhide K).trans kk))).cell0 p3, (unhide (hide ((unhide K).trans kk))).cell0 p4, (unhide (hide ((unhide K).trans kk))).cell0 p5⟩
      clear hHeld hK KK
      exact Eq.mp (hG _ _ _ _) (s_b0_c1 w2 gb0 cb0 a2 c2 g2 (hide ((unhide K).trans kk)) (⟨own_kept (unhide Fb0).1 kk, Nat.lt_of_lt_of_le (unhide Fb0).2 kk.size⟩) nf (fun e => by have := (unhide Fb0).2; have := hg2.1; omega))
    · simp only [List.getElem_toArray, List.getElem_cons_succ, List.getElem_cons_zero]
      rw [if_pos (by rfl)]
      go_simp
      have kk := (Kept.refl 0 0 w).alloc (.cells #[.int .u8 32] 5)
      have nf : Hid (Row .u8 true w.heap.size (w.heap.size + 1) (w.alloc (.cells #[.int .u8 32] 5)) (.slice (some ⟨w.heap.size, 0, none⟩) 1 1) ([32] : List Int) ∧ w.heap.size < (w.alloc (.cells #[.int .u8 32] 5)).heap.size) := by
        refine ⟨?_, by simp⟩
        exact (Row.own (own_lit .u8 w 5 w.heap.size (Nat.le_refl _) [32] (by simp [maxLen]))).wider (Nat.le_refl _) (by simp)
      refine hK.out _ _ ?_ (fun hHeld => ?_)
      · exact ⟨(unhide (hide ((unhide K).trans kk))).cell0 p0, (unhide (hide ((unhide K).trans kk))).cell0 p1, (unhide (hide ((unhide K).trans kk))).cell0 p2, (unhide (hide ((unhide K).trans kk))).cell0 p3, (unhide (hide ((unhide K).trans kk))).cell0 p4, (unhide (hide ((unhide K).trans kk))).cell0 p5⟩
      clear hHeld hK KK
      exact Eq.mp (hG _ _ _ _) (s_b0_b5 ((w.alloc (.cells #[.int .u8 32] 5))) gb0 cb0 ((some ⟨w.heap.size, 0, none⟩)) 1 (w.heap.size) (hide ((unhide K).trans kk)) (⟨own_kept (unhide Fb0).1 kk, Nat.lt_of_lt_of_le (unhide Fb0).2 kk.size⟩) nf (fun e => by have := (unhide Fb0).2; have := Nat.le_refl w.heap.size; omega))
    · simp only [List.getElem_toArray, List.getElem_cons_succ, List.getElem_cons_zero]
      rw [if_pos (by rfl)]
      go_simp
      have kk := (Kept.refl 0 0 w).alloc (.cells #[.int .u8 62] 5)
      have nf : Hid (Row .u8 true w.heap.size (w.heap.size + 1) (w.alloc (.cells #[.int .u8 62] 5)) (.slice (some ⟨w.heap.size, 0, none⟩) 1 1) ([62] : List Int) ∧ w.heap.size < (w.alloc (.cells #[.int .u8 62] 5)).heap.size) := by
        refine ⟨?_, by simp⟩
        exact (Row.own (own_lit .u8 w 5 w.heap.size (Nat.le_refl _) [62] (by simp [maxLen]))).wider (Nat.le_refl _) (by simp)
      refine hK.out _ _ ?_ (fun hHeld => ?_)
      · exact ⟨(unhide (hide ((unhide K).trans kk))).cell0 p0, (unhide (hide ((unhide K).trans kk))).cell0 p1, (unhide (hide ((unhide K).trans kk))).cell0 p2, (unhide (hide ((unhide K).trans kk))).cell0 p3, (unhide (hide ((unhide K).trans kk))).cell0 p4, (unhide (hide ((unhide K).trans kk))).cell0 p5⟩
      clear hHeld hK KK
      exact Eq.mp (hG _ _ _ _) (s_b0_b11 ((w.alloc (.cells #[.int .u8 62] 5))) gb0 cb0 ((some ⟨w.heap.size, 0, none⟩)) 1 (w.heap.size) (hide ((unhide K).trans kk)) (⟨own_kept (unhide Fb0).1 kk, Nat.lt_of_lt_of_le (unhide Fb0).2 kk.size⟩) nf (fun e => by have := (unhide Fb0).2; have := Nat.le_refl w.heap.size; omega))
  have s_c1 : ∀ (w : World) (ac1 : Option Addr) (cc1 gc1 : Nat) (K : Hid (Kept 0 0 W0 w)) (Fc1 : Hid (Row .u8 true gc1 (gc1 + 1) w (.slice ac1 T0.length cc1) T0 ∧ gc1 < w.heap.size)), G 9 #[false, true, true, true, false, false, false, true, true, false, false, false, false, false] { tmps := #[.agg #[.bool s0, .slice qa0 z0.length qc0, .int .i64 y0, .bool s1, .slice qa1 z1.length qc1, .int .i64 y1], .pointer (some ⟨wS.heap.size, 0, none⟩), .slice none 0 0, undef, .pointer (some ⟨wS.heap.size, 0, none⟩), .agg #[.bool s0, .slice qa0 z0.length qc0, .int .i64 y0], .slice ac1 T0.length cc1, undef, undef, undef, .pointer (some ⟨wS.heap.size, 3, none⟩), .agg #[.bool s1, .slice qa1 z1.length qc1, .int .i64 y1], undef, undef, undef, undef], defers := [] } w := by
    intro w ac1 cc1 gc1 K Fc1
    refine Eq.mpr (hG _ _ _ _) ?_
    refine wpAnyH_ready (rs := [0, 5, 11]) (by kernel_rfl) (by simp) ?_
    refine AllReadyH.cons rfl (fun KK hK => ?_) (AllReadyH.cons rfl (fun KK hK => ?_) (AllReadyH.cons rfl (fun KK hK => ?_) AllReadyH.nil))
    · simp only [List.getElem_toArray, List.getElem_cons_succ, List.getElem_cons_zero]
      rw [if_pos (by rfl)]
      go_simp
      have kk := (Kept.refl 0 0 w).alloc (.cells #[.int .u8 60] 5)
      have nf : Hid ((w.alloc (.cells #[.int .u8 60] 5)).ownsRow W0.heap.size 5 1 (.slice (some ⟨w.heap.size, 0, none⟩) 1 1) ([60] : List Int).length (([60] : List Int).map (Value.int .u8)) ∧ w.heap.size < (w.alloc (.cells #[.int .u8 60] 5)).heap.size) := by
        refine ⟨?_, by simp⟩
        exact own_lit .u8 w 5 _ (unhide K).size [60] (by simp [maxLen])
      refine hK.out _ _ ?_ (fun hHeld => ?_)
      · exact ⟨(unhide (hide ((unhide K).trans kk))).cell0 p0, (unhide (hide ((unhide K).trans kk))).cell0 p1, (unhide (hide ((unhide K).trans kk))).cell0 p2, (unhide (hide ((unhide K).trans kk))).cell0 p3, (unhide (hide ((unhide K).trans kk))).cell0 p4, (unhide (hide ((unhide K).trans kk))).cell0 p5⟩
      clear hHeld hK KK
      exact Eq.mp (hG _ _ _ _) (s_b0_c1 ((w.alloc (.cells #[.int .u8 60] 5))) (w.heap.size) 1 ac1 cc1 gc1 (hide ((unhide K).trans kk)) nf (⟨(unhide Fc1).1.kept kk (by omega), Nat.lt_of_lt_of_le (unhide Fc1).2 kk.size⟩) (fun e => by have := (unhide Fc1).2; omega))
    · simp only [List.getElem_toArray, List.getElem_cons_succ, List.getElem_cons_zero]
      rw [if_pos (by rfl)]
      go_simp
      have kk := (Kept.refl 0 0 w).alloc (.cells #[.int .u8 32] 5)
      have nf : Hid (Row .u8 true w.heap.size (w.heap.size + 1) (w.alloc (.cells #[.int .u8 32] 5)) (.slice (some ⟨w.heap.size, 0, none⟩) 1 1) ([32] : List Int) ∧ w.heap.size < (w.alloc (.cells #[.int .u8 32] 5)).heap.size) := by
        refine ⟨?_, by simp⟩
        exact (Row.own (own_lit .u8 w 5 w.heap.size (Nat.le_refl _) [32] (by simp [maxLen]))).wider (Nat.le_refl _) (by simp)
      refine hK.out _ _ ?_ (fun hHeld => ?_)
      · exact ⟨(unhide (hide ((unhide K).trans kk))).cell0 p0, (unhide (hide ((unhide K).trans kk))).cell0 p1, (unhide (hide ((unhide K).trans kk))).cell0 p2, (unhide (hide ((unhide K).trans kk))).cell0 p3, (unhide (hide ((unhide K).trans kk))).cell0 p4, (unhide (hide ((unhide K).trans kk))).cell0 p5⟩
      clear hHeld hK KK
      exact Eq.mp (hG _ _ _ _) (s_c1_b5 ((w.alloc (.cells #[.int .u8 32] 5))) ac1 cc1 gc1 ((some ⟨w.heap.size, 0, none⟩)) 1 (w.heap.size) (hide ((unhide K).trans kk)) (⟨(unhide Fc1).1.kept kk (by omega), Nat.lt_of_lt_of_le (unhide Fc1).2 kk.size⟩) nf)
    · simp only [List.getElem_toArray, List.getElem_cons_succ, List.getElem_cons_zero]
      rw [if_pos (by rfl)]
      go_simp
      have kk := (Kept.refl 0 0 w).alloc (.cells #[.int .u8 62] 5)
      have nf : Hid (Row .u8 true w.heap.size (w.heap.size + 1) (w.alloc (.cells #[.int .u8 62] 5)) (.slice (some ⟨w.heap.size, 0, none⟩) 1 1) ([62] : List Int) ∧ w.heap.size < (w.alloc (.cells #[.int .u8 62] 5)).heap.size) := by
        refine ⟨?_, by simp⟩
        exact (Row.own (own_lit .u8 w 5 w.heap.size (Nat.le_refl _) [62] (by simp [maxLen]))).wider (Nat.le_refl _) (by simp)
      refine hK.out _ _ ?_ (fun hHeld => ?_)
      · exact ⟨(unhide (hide ((unhide K).trans kk))).cell0 p0, (unhide (hide ((unhide K).trans kk))).cell0 p1, (unhide (hide ((unhide K).trans kk))).cell0 p2, (unhide (hide ((unhide K).trans kk))).cell0 p3, (unhide (hide ((unhide K).trans kk))).cell0 p4, (unhide (hide ((unhide K).trans kk))).cell0 p5⟩
      clear hHeld hK KK
      exact Eq.mp (hG _ _ _ _) (s_c1_b11 ((w.alloc (.cells #[.int .u8 62] 5))) ac1 cc1 gc1 ((some ⟨w.heap.size, 0, none⟩)) 1 (w.heap.size) (hide ((unhide K).trans kk)) (⟨(unhide Fc1).1.kept kk (by omega), Nat.lt_of_lt_of_le (unhide Fc1).2 kk.size⟩) nf)
  have s_b5 : ∀ (w : World) (ab5 : Option Addr) (cb5 gb5 : Nat) (K : Hid (Kept 0 0 W0 w)) (Fb5 : Hid (Row .u8 true gb5 (gb5 + 1) w (.slice ab5 1 cb5) ([32] : List Int) ∧ gb5 < w.heap.size)), G 9 #[false, true, true, false, false, true, false, true, true, false, false, false, false, false] { tmps := #[.agg #[.bool s0, .slice qa0 z0.length qc0, .int .i64 y0, .bool s1, .slice qa1 z1.length qc1, .int .i64 y1], .pointer (some ⟨wS.heap.size, 0, none⟩), .slice none 0 0, undef, .pointer (some ⟨wS.heap.size, 0, none⟩), .agg #[.bool s0, .slice qa0 z0.length qc0, .int .i64 y0], undef, undef, .slice ab5 1 cb5, undef, .pointer (some ⟨wS.heap.size, 3, none⟩), .agg #[.bool s1, .slice qa1 z1.length qc1, .int .i64 y1], undef, undef, undef, undef], defers := [] } w := by
    intro w ab5 cb5 gb5 K Fb5
    refine Eq.mpr (hG _ _ _ _) ?_
    refine wpAnyH_ready (rs := [0, 3, 11]) (by kernel_rfl) (by simp) ?_
    refine AllReadyH.cons rfl (fun KK hK => ?_) (AllReadyH.cons rfl (fun KK hK => ?_) (AllReadyH.cons rfl (fun KK hK => ?_) AllReadyH.nil))
    · simp only [List.getElem_toArray, List.getElem_cons_succ, List.getElem_cons_zero]
      rw [if_pos (by rfl)]
      go_simp
      have kk := (Kept.refl 0 0 w).alloc (.cells #[.int .u8 60] 5)
      have nf : Hid ((w.alloc (.cells #[.int .u8 60] 5)).ownsRow W0.heap.size 5 1 (.slice (some ⟨w.heap.size, 0, none⟩) 1 1) ([60] : List Int).length (([60] : List Int).map (Value.int .u8)) ∧ w.heap.size < (w.alloc (.cells #[.int .u8 60] 5)).heap.size) := by
        refine ⟨?_, by simp⟩
        exact own_lit .u8 w 5 _ (unhide K).size [60] (by simp [maxLen])
      refine hK.out _ _ ?_ (fun hHeld => ?_)
      · exact ⟨(unhide (hide ((unhide K).trans kk))).cell0 p0, (unhide (hide ((unhide K).trans kk))).cell0 p1, (unhide (hide ((unhide K).trans kk))).cell0 p2, (unhide (hide ((unhide K).trans kk))).cell0 p3, (unhide (hide ((unhide K).trans kk))).cell0 p4, (unhide (hide ((unhide K).trans kk))).cell0 p5⟩
      clear hHeld hK KK
      exact Eq.mp (hG _ _ _ _) (s_b0_b5 ((w.alloc (.cells #[.int .u8 60] 5))) (w.heap.size) 1 ab5 cb5 gb5 (hide ((unhide K).trans kk)) nf (⟨(unhide Fb5).1.kept kk (by omega), Nat.lt_of_lt_of_le (unhide Fb5).2 kk.size⟩) (fun e => by have := (unhide Fb5).2; omega))
    · simp only [List.getElem_toArray, List.getElem_cons_succ, List.getElem_cons_zero]
      rw [if_pos (by rfl)]
      have hc := unhide H0 w (unhide K)
      refine wps1 36 _ _ rfl in_l4dec (.agg #[.bool s0, .slice qa0 z0.length qc0, .int .i64 y0]) rfl hc ?_
      rintro e w2 ⟨v2, rfl, r2, kk⟩
      refine ⟨_, rfl, ?_⟩
      obtain ⟨a2, c2, hv2⟩ := Row.form' r2
      subst hv2
      obtain ⟨g2, hg2, rb2⟩ := row_block1 r2
      have hg2 := hg2 (unhide NE0)
      have nf : Hid (Row .u8 true g2 (g2 + 1) w2 (.slice a2 T0.length c2) T0 ∧ g2 < w2.heap.size) := ⟨rb2, hg2.2⟩
      clear hc r2 rb2
      refine hK.out _ _ ?_ (fun hHeld => ?_)
      · exact ⟨(unhide (hide ((unhide K).trans kk))).cell0 p0, (unhide (hide ((unhide K).trans kk))).cell0 p1, (unhide (hide ((unhide K).trans kk))).cell0 p2, (unhide (hide ((unhide K).trans kk))).cell0 p3, (unhide (hide ((unhide K).trans kk))).cell0 p4, (unhide (hide ((unhide K).trans kk))).cell0 p5⟩
      clear hHeld hK KK
      exact Eq.mp (hG _ _ _ _) (s_c1_b5 w2 a2 c2 g2 ab5 cb5 gb5 (hide ((unhide K).trans kk)) nf (⟨(unhide Fb5).1.kept kk (by omega), Nat.lt_of_lt_of_le (unhide Fb5).2 kk.size⟩))
    · simp only [List.getElem_toArray, List.getElem_cons_succ, List.getElem_cons_zero]
      rw [if_pos (by rfl)]
      go_simp
      have kk := (Kept.refl 0 0 w).alloc (.cells #[.int .u8 62] 5)
      have nf : Hid (Row .u8 true w.heap.size (w.heap.size + 1) (w.alloc (.cells #[.int .u8 62] 5)) (.slice (some ⟨w.heap.size, 0, none⟩) 1 1) ([62] : List Int) ∧ w.heap.size < (w.alloc (.cells #[.int .u8 62] 5)).heap.size) := by
        refine ⟨?_, by simp⟩
        exact (Row.own (own_lit .u8 w 5 w.heap.size (Nat.le_refl _) [62] (by simp [maxLen]))).wider (Nat.le_refl _) (by simp)
      refine hK.out _ _ ?_ (fun hHeld => ?_)
      · exact ⟨(unhide (hide ((unhide K).trans kk))).cell0 p0, (unhide (hide ((unhide K).trans kk))).cell0 p1, (unhide (hide ((unhide K).trans kk))).cell0 p2, (unhide (hide ((unhide K).trans kk))).cell0 p3, (unhide (hide ((unhide K).trans kk))).cell0 p4, (unhide (hide ((unhide K).trans kk))).cell0 p5⟩
      clear hHeld hK KK
      exact Eq.mp (hG _ _ _ _) (s_b5_b11 ((w.alloc (.cells #[.int .u8 62] 5))) ab5 cb5 gb5 ((some ⟨w.heap.size, 0, none⟩)) 1 (w.heap.size) (hide ((unhide K).trans kk)) (⟨(unhide Fb5).1.kept kk (by omega), Nat.lt_of_lt_of_le (unhide Fb5).2 kk.size⟩) nf)
  have s_b11 : ∀ (w : World) (ab11 : Option Addr) (cb11 gb11 : Nat) (K : Hid (Kept 0 0 W0 w)) (Fb11 : Hid (Row .u8 true gb11 (gb11 + 1) w (.slice ab11 1 cb11) ([62] : List Int) ∧ gb11 < w.heap.size)), G 9 #[false, true, true, false, false, false, false, true, true, false, false, true, false, false] { tmps := #[.agg #[.bool s0, .slice qa0 z0.length qc0, .int .i64 y0, .bool s1, .slice qa1 z1.length qc1, .int .i64 y1], .pointer (some ⟨wS.heap.size, 0, none⟩), .slice none 0 0, undef, .pointer (some ⟨wS.heap.size, 0, none⟩), .agg #[.bool s0, .slice qa0 z0.length qc0, .int .i64 y0], undef, undef, undef, undef, .pointer (some ⟨wS.heap.size, 3, none⟩), .agg #[.bool s1, .slice qa1 z1.length qc1, .int .i64 y1], undef, undef, .slice ab11 1 cb11, undef], defers := [] } w := by
    intro w ab11 cb11 gb11 K Fb11
    refine Eq.mpr (hG _ _ _ _) ?_
    refine wpAnyH_ready (rs := [0, 3, 5]) (by kernel_rfl) (by simp) ?_
    refine AllReadyH.cons rfl (fun KK hK => ?_) (AllReadyH.cons rfl (fun KK hK => ?_) (AllReadyH.cons rfl (fun KK hK => ?_) AllReadyH.nil))
    · simp only [List.getElem_toArray, List.getElem_cons_succ, List.getElem_cons_zero]
      rw [if_pos (by rfl)]
      go_simp
      have kk := (Kept.refl 0 0 w).alloc (.cells #[.int .u8 60] 5)
      have nf : Hid ((w.alloc (.cells #[.int .u8 60] 5)).ownsRow W0.heap.size 5 1 (.slice (some ⟨w.heap.size, 0, none⟩) 1 1) ([60] : List Int).length (([60] : List Int).map (Value.int .u8)) ∧ w.heap.size < (w.alloc (.cells #[.int .u8 60] 5)).heap.size) := by
        refine ⟨?_, by simp⟩
        exact own_lit .u8 w 5 _ (unhide K).size [60] (by simp [maxLen])
      refine hK.out _ _ ?_ (fun hHeld => ?_)
      · exact ⟨(unhide (hide ((unhide K).trans kk))).cell0 p0, (unhide (hide ((unhide K).trans kk))).cell0 p1, (unhide (hide ((unhide K).trans kk))).cell0 p2, (unhide (hide ((unhide K).trans kk))).cell0 p3, (unhide (hide ((unhide K).trans kk))).cell0 p4, (unhide (hide ((unhide K).trans kk))).cell0 p5⟩
      clear hHeld hK KK
      exact Eq.mp (hG _ _ _ _) (s_b0_b11 ((w.alloc (.cells #[.int .u8 60] 5))) (w.heap.size) 1 ab11 cb11 gb11 (hide ((unhide K).trans kk)) nf (⟨(unhide Fb11).1.kept kk (by omega), Nat.lt_of_lt_of_le (unhide Fb11).2 kk.size⟩) (fun e => by have := (unhide Fb11).2; omega))
    · simp only [List.getElem_toArray, List.getElem_cons_succ, List.getElem_cons_zero]
      rw [if_pos (by rfl)]
      have hc := unhide H0 w (unhide K)
      refine wps1 36 _ _ rfl in_l4dec (.agg #[.bool s0, .slice qa0 z0.length qc0, .int .i64 y0]) rfl hc ?_
      rintro e w2 ⟨v2, rfl, r2, kk⟩
      refine ⟨_, rfl, ?_⟩
      obtain ⟨a2, c2, hv2⟩ := Row.form' r2
      subst hv2
      obtain ⟨g2, hg2, rb2⟩ := row_block1 r2
      have hg2 := hg2 (unhide NE0)
      have nf : Hid (Row .u8 true g2 (g2 + 1) w2 (.slice a2 T0.length c2) T0 ∧ g2 < w2.heap.size) := ⟨rb2, hg2.2⟩
      clear hc r2 rb2
      refine hK.out _ _ ?_ (fun hHeld => ?_)
      · exact ⟨(unhide (hide ((unhide K).trans kk))).cell0 p0, (unhide (hide ((unhide K).trans kk))).cell0 p1, (unhide (hide ((unhide K).trans kk))).cell0 p2, (unhide (hide ((unhide K).trans kk))).cell0 p3, (unhide (hide ((unhide K).trans kk))).cell0 p4, (unhide (hide ((unhide K).trans kk))).cell0 p5⟩
      clear hHeld hK KK
      exact Eq.mp (hG _ _ _ _) (s_c1_b11 w2 a2 c2 g2 ab11 cb11 gb11 (hide ((unhide K).trans kk)) nf (⟨(unhide Fb11).1.kept kk (by omega), Nat.lt_of_lt_of_le (unhide Fb11).2 kk.size⟩))
    · simp only [List.getElem_toArray, List.getElem_cons_succ, List.getElem_cons_zero]
      rw [if_pos (by rfl)]
      go_simp
      have kk := (Kept.refl 0 0 w).alloc (.cells #[.int .u8 32] 5)
      have nf : Hid (Row .u8 true w.heap.size (w.heap.size + 1) (w.alloc (.cells #[.int .u8 32] 5)) (.slice (some ⟨w.heap.size, 0, none⟩) 1 1) ([32] : List Int) ∧ w.heap.size < (w.alloc (.cells #[.int .u8 32] 5)).heap.size) := by
        refine ⟨?_, by simp⟩
        exact (Row.own (own_lit .u8 w 5 w.heap.size (Nat.le_refl _) [32] (by simp [maxLen]))).wider (Nat.le_refl _) (by simp)
      refine hK.out _ _ ?_ (fun hHeld => ?_)
      · exact ⟨(unhide (hide ((unhide K).trans kk))).cell0 p0, (unhide (hide ((unhide K).trans kk))).cell0 p1, (unhide (hide ((unhide K).trans kk))).cell0 p2, (unhide (hide ((unhide K).trans kk))).cell0 p3, (unhide (hide ((unhide K).trans kk))).cell0 p4, (unhide (hide ((unhide K).trans kk))).cell0 p5⟩
      clear hHeld hK KK
      exact Eq.mp (hG _ _ _ _) (s_b5_b11 ((w.alloc (.cells #[.int .u8 32] 5))) ((some ⟨w.heap.size, 0, none⟩)) 1 (w.heap.size) ab11 cb11 gb11 (hide ((unhide K).trans kk)) nf (⟨(unhide Fb11).1.kept kk (by omega), Nat.lt_of_lt_of_le (unhide Fb11).2 kk.size⟩))
  have s_0 : ∀ (w : World) (K : Hid (Kept 0 0 W0 w)), G 10 #[false, true, true, false, false, false, false, true, true, false, false, false, false, false] { tmps := #[.agg #[.bool s0, .slice qa0 z0.length qc0, .int .i64 y0, .bool s1, .slice qa1 z1.length qc1, .int .i64 y1], .pointer (some ⟨wS.heap.size, 0, none⟩), .slice none 0 0, undef, .pointer (some ⟨wS.heap.size, 0, none⟩), .agg #[.bool s0, .slice qa0 z0.length qc0, .int .i64 y0], undef, undef, undef, undef, .pointer (some ⟨wS.heap.size, 3, none⟩), .agg #[.bool s1, .slice qa1 z1.length qc1, .int .i64 y1], undef, undef, undef, undef], defers := [] } w := by
    intro w K
    refine Eq.mpr (hG _ _ _ _) ?_
    refine wpAnyH_ready (rs := [0, 3, 5, 11]) (by kernel_rfl) (by simp) ?_
    refine AllReadyH.cons rfl (fun KK hK => ?_) (AllReadyH.cons rfl (fun KK hK => ?_) (AllReadyH.cons rfl (fun KK hK => ?_) (AllReadyH.cons rfl (fun KK hK => ?_) AllReadyH.nil)))
    · simp only [List.getElem_toArray, List.getElem_cons_succ, List.getElem_cons_zero]
      rw [if_pos (by rfl)]
      go_simp
      have kk := (Kept.refl 0 0 w).alloc (.cells #[.int .u8 60] 5)
      have nf : Hid ((w.alloc (.cells #[.int .u8 60] 5)).ownsRow W0.heap.size 5 1 (.slice (some ⟨w.heap.size, 0, none⟩) 1 1) ([60] : List Int).length (([60] : List Int).map (Value.int .u8)) ∧ w.heap.size < (w.alloc (.cells #[.int .u8 60] 5)).heap.size) := by
        refine ⟨?_, by simp⟩
        exact own_lit .u8 w 5 _ (unhide K).size [60] (by simp [maxLen])
      refine hK.out _ _ ?_ (fun hHeld => ?_)
      · exact ⟨(unhide (hide ((unhide K).trans kk))).cell0 p0, (unhide (hide ((unhide K).trans kk))).cell0 p1, (unhide (hide ((unhide K).trans kk))).cell0 p2, (unhide (hide ((unhide K).trans kk))).cell0 p3, (unhide (hide ((unhide K).trans kk))).cell0 p4, (unhide (hide ((unhide K).trans kk))).cell0 p5⟩
      clear hHeld hK KK
      exact Eq.mp (hG _ _ _ _) (s_b0 ((w.alloc (.cells #[.int .u8 60] 5))) (w.heap.size) 1 (hide ((unhide K).trans kk)) nf)
    · simp only [List.getElem_toArray, List.getElem_cons_succ, List.getElem_cons_zero]
      rw [if_pos (by rfl)]
      have hc := unhide H0 w (unhide K)
      refine wps1 36 _ _ rfl in_l4dec (.agg #[.bool s0, .slice qa0 z0.length qc0, .int .i64 y0]) rfl hc ?_
      rintro e w2 ⟨v2, rfl, r2, kk⟩
      refine ⟨_, rfl, ?_⟩
      obtain ⟨a2, c2, hv2⟩ := Row.form' r2
      subst hv2
      obtain ⟨g2, hg2, rb2⟩ := row_block1 r2
      have hg2 := hg2 (unhide NE0)
      have nf : Hid (Row .u8 true g2 (g2 + 1) w2 (.slice a2 T0.length c2) T0 ∧ g2 < w2.heap.size) := ⟨rb2, hg2.2⟩
      clear hc r2 rb2
      refine hK.out _ _ ?_ (fun hHeld => ?_)
      · exact ⟨(unhide (hide ((unhide K).trans kk))).cell0 p0, (unhide (hide ((unhide K).trans kk))).cell0 p1, (unhide (hide ((unhide K).trans kk))).cell0 p2, (unhide (hide ((unhide K).trans kk))).cell0 p3, (unhide (hide ((unhide K).trans kk))).cell0 p4, (unhide (hide ((unhide K).trans kk))).cell0 p5⟩
      clear hHeld hK KK
      exact Eq.mp (hG _ _ _ _) (s_c1 w2 a2 c2 g2 (hide ((unhide K).trans kk)) nf)
    · simp only [List.getElem_toArray, List.getElem_cons_succ, List.getElem_cons_zero]
      rw [if_pos (by rfl)]
      go_simp
      have kk := (Kept.refl 0 0 w).alloc (.cells #[.int .u8 32] 5)
      have nf : Hid (Row .u8 true w.heap.size (w.heap.size + 1) (w.alloc (.cells #[.int .u8 32] 5)) (.slice (some ⟨w.heap.size, 0, none⟩) 1 1) ([32] : List Int) ∧ w.heap.size < (w.alloc (.cells #[.int .u8 32] 5)).heap.size) := by
        refine ⟨?_, by simp⟩
        exact (Row.own (own_lit .u8 w 5 w.heap.size (Nat.le_refl _) [32] (by simp [maxLen]))).wider (Nat.le_refl _) (by simp)
      refine hK.out _ _ ?_ (fun hHeld => ?_)
      · exact ⟨(unhide (hide ((unhide K).trans kk))).cell0 p0, (unhide (hide ((unhide K).trans kk))).cell0 p1, (unhide (hide ((unhide K).trans kk))).cell0 p2, (unhide (hide ((unhide K).trans kk))).cell0 p3, (unhide (hide ((unhide K).trans kk))).cell0 p4, (unhide (hide ((unhide K).trans kk))).cell0 p5⟩
      clear hHeld hK KK
      exact Eq.mp (hG _ _ _ _) (s_b5 ((w.alloc (.cells #[.int .u8 32] 5))) ((some ⟨w.heap.size, 0, none⟩)) 1 (w.heap.size) (hide ((unhide K).trans kk)) nf)
    · simp only [List.getElem_toArray, List.getElem_cons_succ, List.getElem_cons_zero]
      rw [if_pos (by rfl)]
      go_simp
      have kk := (Kept.refl 0 0 w).alloc (.cells #[.int .u8 62] 5)
      have nf : Hid (Row .u8 true w.heap.size (w.heap.size + 1) (w.alloc (.cells #[.int .u8 62] 5)) (.slice (some ⟨w.heap.size, 0, none⟩) 1 1) ([62] : List Int) ∧ w.heap.size < (w.alloc (.cells #[.int .u8 62] 5)).heap.size) := by
        refine ⟨?_, by simp⟩
        exact (Row.own (own_lit .u8 w 5 w.heap.size (Nat.le_refl _) [62] (by simp [maxLen]))).wider (Nat.le_refl _) (by simp)
      refine hK.out _ _ ?_ (fun hHeld => ?_)
      · exact ⟨(unhide (hide ((unhide K).trans kk))).cell0 p0, (unhide (hide ((unhide K).trans kk))).cell0 p1, (unhide (hide ((unhide K).trans kk))).cell0 p2, (unhide (hide ((unhide K).trans kk))).cell0 p3, (unhide (hide ((unhide K).trans kk))).cell0 p4, (unhide (hide ((unhide K).trans kk))).cell0 p5⟩
      clear hHeld hK KK
      exact Eq.mp (hG _ _ _ _) (s_b11 ((w.alloc (.cells #[.int .u8 62] 5))) ((some ⟨w.heap.size, 0, none⟩)) 1 (w.heap.size) (hide ((unhide K).trans kk)) nf)
  exact s_0 W0 (hide (Kept.refl 0 0 _))

end Go.Proofs.Ytfikfmkhmojpfaa
