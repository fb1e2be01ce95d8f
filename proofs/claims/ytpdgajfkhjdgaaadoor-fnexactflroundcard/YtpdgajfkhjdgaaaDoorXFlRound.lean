/-
  The walk of the law FnExactFlRound: it returns true at every argument.
-/
import Derived.Test.YtpdgajfkhjdgaaaDoorFlRd
import Derived.Test.YtpdgajfkhjdgaaaDoorLawD
import Derived.Deep.DeepCutAuto
namespace Go.Proofs.YtpdgajfkhjdgaaaDoor
open Go.RowKit
set_option linter.unusedVariables false
set_option maxRecDepth 8000
set_option linter.unusedSimpArgs false

theorem wf_FlRound {n : Int} (h : (Lit.int .i64 n).wf = true) : n ≤ 9223372036854775807 ∧ -9223372036854775808 ≤ n := by
  have e : (Lit.int .i64 n).wf = (decide (IntKind.i64.min ≤ n) && decide (n ≤ IntKind.i64.max)) := rfl
  rw [e, show IntKind.i64.min = -9223372036854775808 by decide, show IntKind.i64.max = 9223372036854775807 by decide] at h
  simp at h
  omega

theorem eqFl_k (k : Int) (n : Bool) (m e : Int) (w : World) :
    Calls Tryd.prog 16 #[flv k n m e, flv k n m e] w fun r w' => r = .returned (.bool true) ∧ Kept 0 0 w w' :=
  (eqFl_same k n m e w).mono (fun e w' h => ⟨h.1, by rw [h.2]; exact ((Kept.refl 0 0 w).alloc _).alloc _⟩)

set_option maxHeartbeats 4000000 in
theorem law_FlRound {u : Value} {z : List Int} {w : World} (s : Bool) (y : Int) (r : Row .i64 false 0 w.heap.size w u z) (fy : (Lit.int .i64 y).wf = true) (p : Int) (fp : (Lit.int .i64 p).wf = true) (T : TabB w) :
    Calls Tryd.prog 4 #[.agg #[.bool s, u, .int .i64 y], .int .i64 p] w fun e w' => e = .returned (.bool true) ∧ Below w.heap.size w w' := by
  have gy := wf_FlRound fy
  obtain ⟨Q, hQ⟩ : ∃ qq, flQ (dokB s z y && modeB p) s (flA p s (val z).toNat y) = qq := ⟨_, rfl⟩
  obtain ⟨G, hG⟩ : ∃ qq, flGc (dokB s z y && modeB p) (flG p s (val z).toNat y) = qq := ⟨_, rfl⟩
  obtain ⟨C, hC⟩ : ∃ qq, (dokB s z y && modeB p) = qq := ⟨_, rfl⟩
  have hm := r.len
  unfold maxLen at hm
  have HQ := hide hQ
  have HG := hide hG
  have HC := hide hC
  clear hQ hG hC
  have k0 : Kept 0 0 w (w.alloc (.cells #[.bool s, u, .int .i64 y] 28)) := ((Kept.refl 0 0 w).alloc (.cells #[.bool s, u, .int .i64 y] 28))
  have A0 : (w.alloc (.cells #[.bool s, u, .int .i64 y] 28)).cell? ⟨w.heap.size, 0, none⟩ = some (.bool s) := new_cell2 _ _ _ _ _ _ (by simp) rfl
  have A1 : (w.alloc (.cells #[.bool s, u, .int .i64 y] 28)).cell? ⟨w.heap.size, 1, none⟩ = some (u) := new_cell2 _ _ _ _ _ _ (by simp) rfl
  have A2 : (w.alloc (.cells #[.bool s, u, .int .i64 y] 28)).cell? ⟨w.heap.size, 2, none⟩ = some (.int .i64 y) := new_cell2 _ _ _ _ _ _ (by simp) rfl
  replace r := r.kept k0 (by omega)
  have s0 : (w.alloc (.cells #[.bool s, u, .int .i64 y] 28)).heap.size = w.heap.size + 1 := by simp
  obtain ⟨a, c, hv⟩ := Row.form' r
  subst hv
  have K := hide (k0)
  clear k0
  have S0 := hide s0
  clear s0
  go_enter Tryd.func4, Tryd.ntmps4
  go_wp2_with fail
  generalize (w.alloc (.cells #[.bool s, .slice a z.length c, .int .i64 y] 28)) = W at *
  refine (szDy_any (s) (y) _ (1048576) (by omega) (by omega) r).mono ?_
  rintro e w1 ⟨rfl, k1⟩
  replace r := r.kept k1 (.inr (.inr (Nat.le_refl 0)))
  replace A0 := k1.cell0 A0
  replace A1 := k1.cell0 A1
  replace A2 := k1.cell0 A2
  replace K := hide ((unhide K).trans k1)
  have z2 := k1.size
  clear k1
  by_cases big : (z.length : Int) ≤ 1048576
  rotate_left
  · rw [if_neg big]
    go_wp2_with fail
    go_ret
    exact ⟨rfl, (unhide K).toBelow⟩
  rw [if_pos big]
  have nb : ¬ (1048576 - (z.length : Int)) < 0 := by omega
  have hz : z.length ≤ 1099511627776 := by omega
  go_wp2_with fail
  refine (toDy_any (s) (y) _ hz r).mono ?_
  rintro e w3 ⟨v1, rfl, r1, k3⟩
  replace r := r.kept k3 (.inr (.inr (Nat.le_refl 0)))
  replace A0 := k3.cell0 A0
  replace A1 := k3.cell0 A1
  replace A2 := k3.cell0 A2
  replace K := hide ((unhide K).trans k3)
  have z4 := k3.size
  clear k3
  go_wp2_with fail
  have mk := flround_spec s y gy.1 gy.2 p w3 r1
  rw [unhide HQ, unhide HG, unhide HC] at mk
  refine (mk).mono ?_
  rintro e w5 ⟨rfl, k5⟩
  replace r := r.kept k5 (.inr (.inr (Nat.le_refl 0)))
  replace r1 := r1.kept k5 (.inr (.inr (Nat.le_refl 0)))
  replace A0 := k5.cell0 A0
  replace A1 := k5.cell0 A1
  replace A2 := k5.cell0 A2
  replace K := hide ((unhide K).trans k5)
  have z6 := k5.size
  clear k5
  clear mk
  clear r1
  have kn := (Kept.refl 0 0 w5).alloc (.cells #[.int .i64 Q.1, .bool Q.2.1, .int .i64 Q.2.2.1, .int .i64 Q.2.2.2] 42)
  have W0 : (w5.alloc (.cells #[.int .i64 Q.1, .bool Q.2.1, .int .i64 Q.2.2.1, .int .i64 Q.2.2.2] 42)).cell? ⟨w5.heap.size, 0, none⟩ = some (.int .i64 Q.1) := new_cell2 _ _ _ _ _ _ rfl rfl
  have W1 : (w5.alloc (.cells #[.int .i64 Q.1, .bool Q.2.1, .int .i64 Q.2.2.1, .int .i64 Q.2.2.2] 42)).cell? ⟨w5.heap.size, 1, none⟩ = some (.bool Q.2.1) := new_cell2 _ _ _ _ _ _ rfl rfl
  have W2 : (w5.alloc (.cells #[.int .i64 Q.1, .bool Q.2.1, .int .i64 Q.2.2.1, .int .i64 Q.2.2.2] 42)).cell? ⟨w5.heap.size, 2, none⟩ = some (.int .i64 Q.2.2.1) := new_cell2 _ _ _ _ _ _ rfl rfl
  have W3 : (w5.alloc (.cells #[.int .i64 Q.1, .bool Q.2.1, .int .i64 Q.2.2.1, .int .i64 Q.2.2.2] 42)).cell? ⟨w5.heap.size, 3, none⟩ = some (.int .i64 Q.2.2.2) := new_cell2 _ _ _ _ _ _ rfl rfl
  have t7 : w5.heap.size + 1 ≤ (w5.alloc (.cells #[.int .i64 Q.1, .bool Q.2.1, .int .i64 Q.2.2.1, .int .i64 Q.2.2.2] 42)).heap.size := by simp
  replace r := r.kept kn (.inr (.inr (Nat.le_refl 0)))
  replace A0 := kn.cell0 A0
  replace A1 := kn.cell0 A1
  replace A2 := kn.cell0 A2
  replace K := hide ((unhide K).trans kn)
  have z8 := kn.size
  clear kn
  go_wp2_with fail
  generalize w5.alloc (.cells #[.int .i64 Q.1, .bool Q.2.1, .int .i64 Q.2.2.1, .int .i64 Q.2.2.2] 42) = wm7 at *
  refine (toDy_any (s) (y) _ hz r).mono ?_
  rintro e w9 ⟨v2, rfl, r2, k9⟩
  replace r := r.kept k9 (.inr (.inr (Nat.le_refl 0)))
  replace A0 := k9.cell0 A0
  replace A1 := k9.cell0 A1
  replace A2 := k9.cell0 A2
  replace W0 := k9.cell0 W0
  replace W1 := k9.cell0 W1
  replace W2 := k9.cell0 W2
  replace W3 := k9.cell0 W3
  replace K := hide ((unhide K).trans k9)
  have z10 := k9.size
  clear k9
  obtain ⟨a2, c2, hv⟩ := Row.form' r2
  subst hv
  have kn := (Kept.refl 0 0 w9).alloc (.cells #[.bool s, .slice a2 z.length c2, .int .i64 y] 34)
  have X0 : (w9.alloc (.cells #[.bool s, .slice a2 z.length c2, .int .i64 y] 34)).cell? ⟨w9.heap.size, 0, none⟩ = some (.bool s) := new_cell2 _ _ _ _ _ _ rfl rfl
  have X1 : (w9.alloc (.cells #[.bool s, .slice a2 z.length c2, .int .i64 y] 34)).cell? ⟨w9.heap.size, 1, none⟩ = some (.slice a2 z.length c2) := new_cell2 _ _ _ _ _ _ rfl rfl
  have X2 : (w9.alloc (.cells #[.bool s, .slice a2 z.length c2, .int .i64 y] 34)).cell? ⟨w9.heap.size, 2, none⟩ = some (.int .i64 y) := new_cell2 _ _ _ _ _ _ rfl rfl
  have t11 : w9.heap.size + 1 ≤ (w9.alloc (.cells #[.bool s, .slice a2 z.length c2, .int .i64 y] 34)).heap.size := by simp
  replace r := r.kept kn (.inr (.inr (Nat.le_refl 0)))
  replace r2 := r2.kept kn (.inr (.inr (Nat.le_refl 0)))
  replace A0 := kn.cell0 A0
  replace A1 := kn.cell0 A1
  replace A2 := kn.cell0 A2
  replace W0 := kn.cell0 W0
  replace W1 := kn.cell0 W1
  replace W2 := kn.cell0 W2
  replace W3 := kn.cell0 W3
  replace K := hide ((unhide K).trans kn)
  have z12 := kn.size
  clear kn
  go_wp2_with fail
  generalize w9.alloc (.cells #[.bool s, .slice a2 z.length c2, .int .i64 y] 34) = wm11 at *
  have mk := flround_impl s y gy.1 gy.2 p wm11 r2 (T.kept (unhide K))
  rw [unhide HQ, unhide HG, unhide HC] at mk
  refine (mk).mono ?_
  rintro e w13 ⟨rfl, k13⟩
  replace r := r.kept k13 (.inr (.inr (Nat.le_refl 0)))
  replace r2 := r2.kept k13 (.inr (.inr (Nat.le_refl 0)))
  replace A0 := k13.cell0 A0
  replace A1 := k13.cell0 A1
  replace A2 := k13.cell0 A2
  replace W0 := k13.cell0 W0
  replace W1 := k13.cell0 W1
  replace W2 := k13.cell0 W2
  replace W3 := k13.cell0 W3
  replace X0 := k13.cell0 X0
  replace X1 := k13.cell0 X1
  replace X2 := k13.cell0 X2
  replace K := hide ((unhide K).trans k13)
  have z14 := k13.size
  clear k13
  clear mk
  have kn := (Kept.refl 0 0 w13).alloc (.cells #[.int .i64 Q.1, .bool Q.2.1, .int .i64 Q.2.2.1, .int .i64 Q.2.2.2] 42)
  have Y0 : (w13.alloc (.cells #[.int .i64 Q.1, .bool Q.2.1, .int .i64 Q.2.2.1, .int .i64 Q.2.2.2] 42)).cell? ⟨w13.heap.size, 0, none⟩ = some (.int .i64 Q.1) := new_cell2 _ _ _ _ _ _ rfl rfl
  have Y1 : (w13.alloc (.cells #[.int .i64 Q.1, .bool Q.2.1, .int .i64 Q.2.2.1, .int .i64 Q.2.2.2] 42)).cell? ⟨w13.heap.size, 1, none⟩ = some (.bool Q.2.1) := new_cell2 _ _ _ _ _ _ rfl rfl
  have Y2 : (w13.alloc (.cells #[.int .i64 Q.1, .bool Q.2.1, .int .i64 Q.2.2.1, .int .i64 Q.2.2.2] 42)).cell? ⟨w13.heap.size, 2, none⟩ = some (.int .i64 Q.2.2.1) := new_cell2 _ _ _ _ _ _ rfl rfl
  have Y3 : (w13.alloc (.cells #[.int .i64 Q.1, .bool Q.2.1, .int .i64 Q.2.2.1, .int .i64 Q.2.2.2] 42)).cell? ⟨w13.heap.size, 3, none⟩ = some (.int .i64 Q.2.2.2) := new_cell2 _ _ _ _ _ _ rfl rfl
  have t15 : w13.heap.size + 1 ≤ (w13.alloc (.cells #[.int .i64 Q.1, .bool Q.2.1, .int .i64 Q.2.2.1, .int .i64 Q.2.2.2] 42)).heap.size := by simp
  replace r := r.kept kn (.inr (.inr (Nat.le_refl 0)))
  replace r2 := r2.kept kn (.inr (.inr (Nat.le_refl 0)))
  replace A0 := kn.cell0 A0
  replace A1 := kn.cell0 A1
  replace A2 := kn.cell0 A2
  replace W0 := kn.cell0 W0
  replace W1 := kn.cell0 W1
  replace W2 := kn.cell0 W2
  replace W3 := kn.cell0 W3
  replace X0 := kn.cell0 X0
  replace X1 := kn.cell0 X1
  replace X2 := kn.cell0 X2
  replace K := hide ((unhide K).trans kn)
  have z16 := kn.size
  clear kn
  go_wp2_with fail
  generalize w13.alloc (.cells #[.int .i64 Q.1, .bool Q.2.1, .int .i64 Q.2.2.1, .int .i64 Q.2.2.2] 42) = wm15 at *
  refine (eqFl_k Q.1 Q.2.1 Q.2.2.1 Q.2.2.2 _).mono ?_
  rintro e w17 ⟨rfl, k17⟩
  replace r := r.kept k17 (.inr (.inr (Nat.le_refl 0)))
  replace r2 := r2.kept k17 (.inr (.inr (Nat.le_refl 0)))
  replace A0 := k17.cell0 A0
  replace A1 := k17.cell0 A1
  replace A2 := k17.cell0 A2
  replace W0 := k17.cell0 W0
  replace W1 := k17.cell0 W1
  replace W2 := k17.cell0 W2
  replace W3 := k17.cell0 W3
  replace X0 := k17.cell0 X0
  replace X1 := k17.cell0 X1
  replace X2 := k17.cell0 X2
  replace Y0 := k17.cell0 Y0
  replace Y1 := k17.cell0 Y1
  replace Y2 := k17.cell0 Y2
  replace Y3 := k17.cell0 Y3
  replace K := hide ((unhide K).trans k17)
  have z18 := k17.size
  clear k17
  go_wp2_with fail
  have kd := (Kept.refl 0 0 w17).drew
  replace r := r.kept kd (.inr (.inr (Nat.le_refl 0)))
  replace r2 := r2.kept kd (.inr (.inr (Nat.le_refl 0)))
  replace A0 := kd.cell0 A0
  replace A1 := kd.cell0 A1
  replace A2 := kd.cell0 A2
  replace W0 := kd.cell0 W0
  replace W1 := kd.cell0 W1
  replace W2 := kd.cell0 W2
  replace W3 := kd.cell0 W3
  replace X0 := kd.cell0 X0
  replace X1 := kd.cell0 X1
  replace X2 := kd.cell0 X2
  replace Y0 := kd.cell0 Y0
  replace Y1 := kd.cell0 Y1
  replace Y2 := kd.cell0 Y2
  replace Y3 := kd.cell0 Y3
  replace K := hide ((unhide K).trans kd)
  have z19 := kd.size
  clear kd
  refine wp_region_held_drew (S := (fun w' => w'.cell? ⟨w.heap.size, 0, none⟩ = some (.bool s) ∧ w'.cell? ⟨w.heap.size, 1, none⟩ = some (.slice a z.length c) ∧ w'.cell? ⟨w.heap.size, 2, none⟩ = some (.int .i64 y) ∧ w'.cell? ⟨w9.heap.size, 0, none⟩ = some (.bool s) ∧ w'.cell? ⟨w9.heap.size, 1, none⟩ = some (.slice a2 z.length c2) ∧ w'.cell? ⟨w9.heap.size, 2, none⟩ = some (.int .i64 y))) (by kernel_rfl) ?_ (fun hHeld => ?_)
  · exact ⟨A0, A1, A2, X0, X1, X2⟩
  refine wpAnyH_take (i := 0) (oi := _) (v := .agg #[.bool s, .slice a2 z.length c2, .int .i64 y]) rfl (by kernel_rfl) (by kernel_rfl) (by kernel_rfl) (fun _ _ _ h => h) (Or.inl ⟨by rfl, ?_⟩) hHeld ?_
  · intro wq hSw
    try dsimp only at hSw
    go_simp
  try simp only [Act.put, List.getElem_toArray, List.getElem_cons_succ, List.getElem_cons_zero, List.setIfInBounds_toArray, List.set_cons_zero, List.set_cons_succ]
  refine wpAnyH_take (i := 1) (oi := _) (v := .agg #[.bool s, .slice a z.length c, .int .i64 y]) rfl (by kernel_rfl) (by kernel_rfl) (by kernel_rfl) (fun _ _ _ h => h) (Or.inl ⟨by rfl, ?_⟩) hHeld ?_
  · intro wq hSw
    try dsimp only at hSw
    go_simp
  try simp only [Act.put, List.getElem_toArray, List.getElem_cons_succ, List.getElem_cons_zero, List.setIfInBounds_toArray, List.set_cons_zero, List.set_cons_succ]
  refine wpAnyH_ready (rs := [2]) (by kernel_rfl) (by simp) ?_
  refine AllReadyH.cons rfl (fun KK hK => ?_) AllReadyH.nil
  simp only [List.getElem_toArray, List.getElem_cons_succ, List.getElem_cons_zero]
  rw [if_pos (by rfl)]
  refine wps1 9 (.tmp 50) _ rfl in_toD (.agg #[.bool s, .slice a z.length c, .int .i64 y]) rfl (toDy_any (s) (y) _ hz r) ?_
  rintro e w20 ⟨v3, rfl, r3, k20⟩
  refine ⟨_, rfl, ?_⟩
  replace r := r.kept k20 (.inr (.inr (Nat.le_refl 0)))
  replace r2 := r2.kept k20 (.inr (.inr (Nat.le_refl 0)))
  replace A0 := k20.cell0 A0
  replace A1 := k20.cell0 A1
  replace A2 := k20.cell0 A2
  replace W0 := k20.cell0 W0
  replace W1 := k20.cell0 W1
  replace W2 := k20.cell0 W2
  replace W3 := k20.cell0 W3
  replace X0 := k20.cell0 X0
  replace X1 := k20.cell0 X1
  replace X2 := k20.cell0 X2
  replace Y0 := k20.cell0 Y0
  replace Y1 := k20.cell0 Y1
  replace Y2 := k20.cell0 Y2
  replace Y3 := k20.cell0 Y3
  replace K := hide ((unhide K).trans k20)
  have z21 := k20.size
  clear k20
  clear hHeld
  refine hK.out _ _ ?_ (fun hHeld => ?_)
  · exact ⟨A0, A1, A2, X0, X1, X2⟩
  clear hK KK
  try simp only [Act.put, List.getElem_toArray, List.getElem_cons_succ, List.getElem_cons_zero, List.setIfInBounds_toArray, List.set_cons_zero, List.set_cons_succ]
  refine wpAnyH_ready (rs := [3]) (by kernel_rfl) (by simp) ?_
  refine AllReadyH.cons rfl (fun KK hK => ?_) AllReadyH.nil
  simp only [List.getElem_toArray, List.getElem_cons_succ, List.getElem_cons_zero]
  rw [if_pos (by rfl)]
  refine wps2 11 (.tmp 49) (.tmp 51) _ rfl in_eqD (.agg #[.bool s, .slice a2 z.length c2, .int .i64 y]) (.agg #[.bool s, v3, .int .i64 y]) rfl rfl (eqDy_same (s) (y) _ r2 r3) ?_
  rintro e w22 ⟨rfl, k22⟩
  refine ⟨_, rfl, ?_⟩
  replace r := r.kept k22 (.inr (.inr (Nat.le_refl 0)))
  replace r2 := r2.kept k22 (.inr (.inr (Nat.le_refl 0)))
  replace r3 := r3.kept k22 (.inr (.inr (Nat.le_refl 0)))
  replace A0 := k22.cell0 A0
  replace A1 := k22.cell0 A1
  replace A2 := k22.cell0 A2
  replace W0 := k22.cell0 W0
  replace W1 := k22.cell0 W1
  replace W2 := k22.cell0 W2
  replace W3 := k22.cell0 W3
  replace X0 := k22.cell0 X0
  replace X1 := k22.cell0 X1
  replace X2 := k22.cell0 X2
  replace Y0 := k22.cell0 Y0
  replace Y1 := k22.cell0 Y1
  replace Y2 := k22.cell0 Y2
  replace Y3 := k22.cell0 Y3
  replace K := hide ((unhide K).trans k22)
  have z23 := k22.size
  clear k22
  clear hHeld
  refine hK.out _ _ ?_ (fun hHeld => ?_)
  · exact ⟨A0, A1, A2, X0, X1, X2⟩
  clear hK KK
  try simp only [Act.put, List.getElem_toArray, List.getElem_cons_succ, List.getElem_cons_zero, List.setIfInBounds_toArray, List.set_cons_zero, List.set_cons_succ]
  refine wpAnyH_take (i := 4) (oi := _) (v := .bool false) rfl (by kernel_rfl) (by kernel_rfl) (by kernel_rfl) (fun _ _ _ h => h) (Or.inl ⟨by rfl, ?_⟩) hHeld ?_
  · intro wq hSw
    try dsimp only at hSw
    go_simp
  try simp only [Act.put, List.getElem_toArray, List.getElem_cons_succ, List.getElem_cons_zero, List.setIfInBounds_toArray, List.set_cons_zero, List.set_cons_succ]
  refine wpAnyH_done (by kernel_rfl) ?_ _
  clear hHeld
  go_wp2_with fail
  go_ret
  exact ⟨rfl, (unhide K).toBelow⟩

end Go.Proofs.YtpdgajfkhjdgaaaDoor
