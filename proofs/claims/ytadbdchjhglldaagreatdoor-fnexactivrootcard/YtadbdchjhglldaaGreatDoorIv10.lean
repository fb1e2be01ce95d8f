/-
  Intervals of the model: l7root, IvRoot.
-/
import Derived.Test.YtadbdchjhglldaaGreatDoorIv4a
import Derived.Test.YtadbdchjhglldaaGreatDoorIv9
import Derived.Test.YtadbdchjhglldaaGreatDoorRt6
import Derived.Deep.DeepCutAuto
import Derived.Deep.RegionHeld3
namespace Go.Proofs.YtadbdchjhglldaaGreatDoor
open Go.RowKit
set_option linter.unusedVariables false
set_option maxRecDepth 8000
set_option linter.unusedSimpArgs false

theorem in_l7root : ∀ (w : World) (args : Array Value), (callFunc 15 args).run Tryz.prog w = .ok (.enter 15 args) w := enters Tryz.func15 (by decide) (fun h => by cases h)

/-- A call of three arguments, its guard decided. -/
theorem wps3r {P : Program} {o : Oper} {a : Act} {w : World} {K : Act → World → Prop} {Q : Exit → Act → World → Prop} {R : Ending → World → Prop}
    (n : FuncId) (x y z : Operand) (ts : Array TypeId) (hop : o.op = Op.call { callee := Callee.value (Operand.func n), args := #[x, y, z], argTypes := ts })
    (hcf : ∀ (w : World) (args : Array Value), (callFunc n args).run P w = .ok (.enter n args) w) (vx vy vz : Value) (hx : a.eval x = vx) (hy : a.eval y = vy) (hz : a.eval z = vz) (hc : Calls P n #[vx, vy, vz] w R) (hK : ∀ e w', R e w' → ∃ v, e = .returned v ∧ K (a.put o.dst v) w') :
    Oper.wp P o a w K Q := by
  unfold Oper.wp
  have hrun : (execOp a.eval o).run P w = .ok (.enter n #[vx, vy, vz]) w := by
   have hfn : a.eval (.func n) = .func (.func n) #[] #[] := rfl
   simp [execOp, hop, resolve, invoke, hx, hy, hz, hfn, Deferred.ofValue, Result.andThen, hcf]
  rw [hrun, Oper.upon_enter]
  refine hc.mono ?_
  intro e w' h
  obtain ⟨v, rfl, h2⟩ := hK e w' h
  exact h2

theorem rt_rg {s : Bool} {zs : List Int} {x : Int} (h : dokB s zs x = true) (low mode : Int) (h0 : -3000 ≤ low) (h1 : low ≤ 3000) : dex (rtM mode.toNat (val zs).toNat (x - 2 * (low - 1))) low ≤ 9223372036854775807 ∧ -9223372036854775808 ≤ dex (rtM mode.toNat (val zs).toNat (x - 2 * (low - 1))) low := by
  obtain ⟨g1, g2, g3, -, -⟩ := dok_parts h
  obtain ⟨-, -, hl, hn⟩ := wok_int g1
  exact dex_range _ low (by omega) (by omega) (rtM_lt hn.1 hl mode.toNat (x - 2 * (low - 1)) (by omega)) (by omega)

set_option maxHeartbeats 4000000 in
theorem root7_spec {bw : Bool} {lo hi : Nat} {v : Value} {zs : List Int} (s : Bool) (x low : Int) (hl0 : -3000 ≤ low) (hl1 : low ≤ 3000) (w : World) (r : Row .i64 bw lo hi w v zs) (o1 : dokB s zs x = true) (mode : Int) (hm0 : 0 ≤ mode) (hm4 : mode ≤ 4) :
    Calls Tryz.prog 15 #[.agg #[.bool s, v, .int .i64 x], .int .i64 low, .int .i64 mode] w fun e w' => ∃ v', e = .returned (.agg #[.bool (wsg (rtM mode.toNat (val zs).toNat (x - 2 * (low - 1)))), v', .int .i64 (dex (rtM mode.toNat (val zs).toNat (x - 2 * (low - 1))) low)]) ∧ Row .i64 true w.heap.size w'.heap.size w' v' (dlm (rtM mode.toNat (val zs).toNat (x - 2 * (low - 1)))) ∧ Kept 0 0 w w' := by
  replace r := r.tight
  obtain ⟨h1', f1, f2, -, -⟩ := dok_parts o1
  clear h1'
  obtain ⟨M, hM⟩ : ∃ y, rtM mode.toNat (val zs).toNat (x - 2 * (low - 1)) = y := ⟨_, rfl⟩
  rw [hM]
  have HM := hide hM
  clear hM
  obtain ⟨sM, hsM⟩ : ∃ y, wsg M = y := ⟨_, rfl⟩
  obtain ⟨zM, hzM⟩ : ∃ y, dlm M = y := ⟨_, rfl⟩
  obtain ⟨eM, heM⟩ : ∃ y, dex M low = y := ⟨_, rfl⟩
  rw [hsM, hzM, heM]
  have HsM := hide hsM
  have HzM := hide hzM
  have HeM := hide heM
  clear hsM hzM heM
  obtain ⟨Wn, hn0⟩ : ∃ wz, wz = ((w.alloc (.cells #[.bool s, v, .int .i64 x] 36)).alloc (.cells #[.bool false, .slice none 0 0, .int .i64 0] 36)) := ⟨_, rfl⟩
  have k0 : Kept 0 0 w Wn := by rw [hn0]; exact (((Kept.refl 0 0 w).alloc _).alloc _)
  have p0 : Wn.cell? ⟨w.heap.size, 0, none⟩ = some (.bool s) := by rw [hn0]; exact old_cell _ (new_cell2 _ _ _ _ _ _ (by simp) rfl)
  have p1 : Wn.cell? ⟨w.heap.size, 1, none⟩ = some (v) := by rw [hn0]; exact old_cell _ (new_cell2 _ _ _ _ _ _ (by simp) rfl)
  have p2 : Wn.cell? ⟨w.heap.size, 2, none⟩ = some (.int .i64 x) := by rw [hn0]; exact old_cell _ (new_cell2 _ _ _ _ _ _ (by simp) rfl)
  have q0 : Wn.cell? ⟨w.heap.size + 1, 0, none⟩ = some (.bool false) := by rw [hn0]; exact new_cell2 _ _ _ _ _ _ (by simp) rfl
  have qf0 : Wn.frozen? ⟨w.heap.size + 1, 0, none⟩ = false := by rw [hn0]; exact new_loose2 _ _ _ _ _ (by simp)
  have q1 : Wn.cell? ⟨w.heap.size + 1, 1, none⟩ = some (.slice none 0 0) := by rw [hn0]; exact new_cell2 _ _ _ _ _ _ (by simp) rfl
  have qf1 : Wn.frozen? ⟨w.heap.size + 1, 1, none⟩ = false := by rw [hn0]; exact new_loose2 _ _ _ _ _ (by simp)
  have q2 : Wn.cell? ⟨w.heap.size + 1, 2, none⟩ = some (.int .i64 0) := by rw [hn0]; exact new_cell2 _ _ _ _ _ _ (by simp) rfl
  have qf2 : Wn.frozen? ⟨w.heap.size + 1, 2, none⟩ = false := by rw [hn0]; exact new_loose2 _ _ _ _ _ (by simp)
  subst hn0
  replace r := r.kept k0 (by omega)
  have s0 : ((w.alloc (.cells #[.bool s, v, .int .i64 x] 36)).alloc (.cells #[.bool false, .slice none 0 0, .int .i64 0] 36)).heap.size = w.heap.size + 2 := by simp
  obtain ⟨a, c, hv⟩ := r.form'
  subst hv
  have K := hide (k0)
  clear k0
  have S0 := hide s0
  clear s0
  go_enter Tryz.func15, Tryz.ntmps15
  go_wp2_with fail
  generalize ((w.alloc (.cells #[.bool s, .slice a zs.length c, .int .i64 x] 36)).alloc (.cells #[.bool false, .slice none 0 0, .int .i64 0] 36)) = W at *
  refine (l4sqrt_any s x low (by omega) (by omega) (by omega) _ r o1).mono ?_
  rintro e w1 ⟨v3, S3, z3, E3, rfl, r3, qa, k1⟩
  replace r := r.kp k1
  replace qf0 := k1.loose0 (zbl q0) qf0
  replace qf1 := k1.loose0 (zbl q1) qf1
  replace qf2 := k1.loose0 (zbl q2) qf2
  replace p0 := k1.cell0 p0
  replace p1 := k1.cell0 p1
  replace p2 := k1.cell0 p2
  replace q0 := k1.cell0 q0
  replace q1 := k1.cell0 q1
  replace q2 := k1.cell0 q2
  replace K := hide ((unhide K).trans k1)
  have z2 := k1.size
  clear k1
  clear r
  obtain ⟨a3, c3, hv⟩ := Row.form' r3
  subst hv
  have mr := round4_two S3 E3 low qa.lo qa.hi (by omega) (by omega) w1 r3 qa.wn qa.odd qa.nil qa.len mode hm0 hm4
  rw [qa.rnd mode.toNat, unhide HM, unhide HsM, unhide HzM, unhide HeM] at mr
  obtain ⟨X3, hX3⟩ : ∃ y, rndX (scN (val z3).toNat (E3 - (low - 1))) (scL (val z3).toNat (E3 - (low - 1))) = y := ⟨_, rfl⟩
  rw [hX3] at mr
  clear hX3 qa HM HsM HzM HeM
  go_wp2_with fail
  refine (mr).mono ?_
  rintro e w3 ⟨v6, rfl, r6, k3⟩
  replace r3 := r3.kp k3
  replace qf0 := k3.loose0 (zbl q0) qf0
  replace qf1 := k3.loose0 (zbl q1) qf1
  replace qf2 := k3.loose0 (zbl q2) qf2
  replace p0 := k3.cell0 p0
  replace p1 := k3.cell0 p1
  replace p2 := k3.cell0 p2
  replace q0 := k3.cell0 q0
  replace q1 := k3.cell0 q1
  replace q2 := k3.cell0 q2
  replace K := hide ((unhide K).trans k3)
  have z4 := k3.size
  clear k3
  clear mr
  replace r6 : Row .i64 true (w.heap.size + 2) w3.heap.size w3 v6 zM := by
   have := unhide S0
   rcases r6 with r6 | r6
   ·exact r6.tight.wider (by omega) (Nat.le_refl _)
   ·exact r6.wider (by omega) (Nat.le_refl _)
  clear r3
  obtain ⟨a6, c6, hv⟩ := Row.form' r6
  subst hv
  have kn := (Kept.refl 0 0 w3).alloc (.cells #[.bool sM, .slice a6 zM.length c6, .int .i64 eM] 36)
  have u0 : (w3.alloc (.cells #[.bool sM, .slice a6 zM.length c6, .int .i64 eM] 36)).cell? ⟨w3.heap.size, 0, none⟩ = some (.bool sM) := new_cell2 _ _ _ _ _ _ (by simp) rfl
  have u1 : (w3.alloc (.cells #[.bool sM, .slice a6 zM.length c6, .int .i64 eM] 36)).cell? ⟨w3.heap.size, 1, none⟩ = some (.slice a6 zM.length c6) := new_cell2 _ _ _ _ _ _ (by simp) rfl
  have u2 : (w3.alloc (.cells #[.bool sM, .slice a6 zM.length c6, .int .i64 eM] 36)).cell? ⟨w3.heap.size, 2, none⟩ = some (.int .i64 eM) := new_cell2 _ _ _ _ _ _ (by simp) rfl
  have sz5 : w3.heap.size + 1 ≤ (w3.alloc (.cells #[.bool sM, .slice a6 zM.length c6, .int .i64 eM] 36)).heap.size := by simp
  replace r6 := r6.kp kn
  replace qf0 := kn.loose0 (zbl q0) qf0
  replace qf1 := kn.loose0 (zbl q1) qf1
  replace qf2 := kn.loose0 (zbl q2) qf2
  replace p0 := kn.cell0 p0
  replace p1 := kn.cell0 p1
  replace p2 := kn.cell0 p2
  replace q0 := kn.cell0 q0
  replace q1 := kn.cell0 q1
  replace q2 := kn.cell0 q2
  replace K := hide ((unhide K).trans kn)
  have z6 := kn.size
  clear kn
  go_wp2_with fail
  generalize (w3.alloc (.cells #[.bool sM, .slice a6 zM.length c6, .int .i64 eM] 36)) = wn7 at *
  have R := hide ((((r6.set_other (p := ⟨w.heap.size + 1, 0, none⟩) (.inl (by have := unhide S0; dsimp only; omega)) (.bool sM)).set_other (p := ⟨w.heap.size + 1, 1, none⟩) (.inl (by have := unhide S0; dsimp only; omega)) (.slice a6 zM.length c6)).set_other (p := ⟨w.heap.size + 1, 2, none⟩) (.inl (by have := unhide S0; dsimp only; omega)) (.int .i64 eM)).tight.wider (lo' := w.heap.size) (by have := unhide S0; omega) (Nat.le_refl _))
  have K7 := hide ((((unhide K).setNew (p := ⟨w.heap.size + 1, 0, none⟩) (by simp) (.bool sM)).setNew (p := ⟨w.heap.size + 1, 1, none⟩) (by simp) (.slice a6 zM.length c6)).setNew (p := ⟨w.heap.size + 1, 2, none⟩) (by simp) (.int .i64 eM))
  clear r6 K 
  go_wp2_with fail
  exact bodyPost_ret (v := .agg #[.bool sM, .slice a6 zM.length c6, .int .i64 eM]) (by simp [results, Tryz.results15, go_sem, q0, q1, q2]) rfl ⟨_, rfl, unhide R, unhide K7⟩

set_option maxHeartbeats 4000000 in
theorem ivroot_spec {b1 b2 : Bool} {w1l w1h w2l w2h : Nat} {v1 v2 : Value} {l1 l2 : List Int} (s1 : Bool) (e1 : Int) (hu1 : e1 ≤ 9223372036854775807) (hd1 : -9223372036854775808 ≤ e1) (s2 : Bool) (e2 : Int) (hu2 : e2 ≤ 9223372036854775807) (hd2 : -9223372036854775808 ≤ e2) (w : World) (r1 : Row .i64 b1 w1l w1h w v1 l1) (r2 : Row .i64 b2 w2l w2h w v2 l2) (low : Int) :
    Calls Tryz.prog 5 #[.agg #[.bool s1, v1, .int .i64 e1, .bool s2, v2, .int .i64 e2], .int .i64 low] w fun e w' => IvAnsS (ivC ((iokB s1 l1 e1 s2 l2 e2 && fineB low) && !s1) (rtM (3 : Int).toNat (val l1).toNat (e1 - 2 * (low - 1))) (low) (rtM (2 : Int).toNat (val l2).toNat (e2 - 2 * (low - 1))) (low)) (wsg (rtM (3 : Int).toNat (val l1).toNat (e1 - 2 * (low - 1)))) (dex (rtM (3 : Int).toNat (val l1).toNat (e1 - 2 * (low - 1))) (low)) (dlm (rtM (3 : Int).toNat (val l1).toNat (e1 - 2 * (low - 1)))) (wsg (rtM (2 : Int).toNat (val l2).toNat (e2 - 2 * (low - 1)))) (dex (rtM (2 : Int).toNat (val l2).toNat (e2 - 2 * (low - 1))) (low)) (dlm (rtM (2 : Int).toNat (val l2).toNat (e2 - 2 * (low - 1)))) w e w' := by
  replace r1 := r1.tight
  replace r2 := r2.tight
  obtain ⟨CC, hCC⟩ : ∃ c, ivC ((iokB s1 l1 e1 s2 l2 e2 && fineB low) && !s1) (rtM (3 : Int).toNat (val l1).toNat (e1 - 2 * (low - 1))) (low) (rtM (2 : Int).toNat (val l2).toNat (e2 - 2 * (low - 1))) (low) = c := ⟨_, rfl⟩
  rw [hCC]
  have HCC := hide hCC
  clear hCC
  obtain ⟨W1, hW1⟩ : ∃ c, wsg (rtM (3 : Int).toNat (val l1).toNat (e1 - 2 * (low - 1))) = c := ⟨_, rfl⟩
  obtain ⟨D1, hD1⟩ : ∃ c, dex (rtM (3 : Int).toNat (val l1).toNat (e1 - 2 * (low - 1))) (low) = c := ⟨_, rfl⟩
  obtain ⟨Q1, hQ1⟩ : ∃ c, dlm (rtM (3 : Int).toNat (val l1).toNat (e1 - 2 * (low - 1))) = c := ⟨_, rfl⟩
  obtain ⟨W2, hW2⟩ : ∃ c, wsg (rtM (2 : Int).toNat (val l2).toNat (e2 - 2 * (low - 1))) = c := ⟨_, rfl⟩
  obtain ⟨D2, hD2⟩ : ∃ c, dex (rtM (2 : Int).toNat (val l2).toNat (e2 - 2 * (low - 1))) (low) = c := ⟨_, rfl⟩
  obtain ⟨Q2, hQ2⟩ : ∃ c, dlm (rtM (2 : Int).toNat (val l2).toNat (e2 - 2 * (low - 1))) = c := ⟨_, rfl⟩
  try rw [hW1]
  try rw [hD1]
  try rw [hQ1]
  try rw [hW2]
  try rw [hD2]
  try rw [hQ2]
  have HW1 := hide hW1
  clear hW1
  have HD1 := hide hD1
  clear hD1
  have HQ1 := hide hQ1
  clear hQ1
  have HW2 := hide hW2
  clear hW2
  have HD2 := hide hD2
  clear hD2
  have HQ2 := hide hQ2
  clear hQ2
  obtain ⟨Wn, hn0⟩ : ∃ wz, wz = ((w.alloc (.cells #[.bool s1, v1, .int .i64 e1, .bool s2, v2, .int .i64 e2] 38)).alloc (.cells #[.bool false, .slice none 0 0, .int .i64 0, .bool false, .slice none 0 0, .int .i64 0] 38)) := ⟨_, rfl⟩
  have k0 : Kept 0 0 w Wn := by rw [hn0]; exact (((Kept.refl 0 0 w).alloc _).alloc _)
  have bp0 : Wn.cell? ⟨w.heap.size, 0, none⟩ = some (.bool s1) := by rw [hn0]; exact old_cell _ (new_cell2 _ _ _ _ _ _ (by simp) rfl)
  have bp1 : Wn.cell? ⟨w.heap.size, 1, none⟩ = some (v1) := by rw [hn0]; exact old_cell _ (new_cell2 _ _ _ _ _ _ (by simp) rfl)
  have bp2 : Wn.cell? ⟨w.heap.size, 2, none⟩ = some (.int .i64 e1) := by rw [hn0]; exact old_cell _ (new_cell2 _ _ _ _ _ _ (by simp) rfl)
  have bp3 : Wn.cell? ⟨w.heap.size, 3, none⟩ = some (.bool s2) := by rw [hn0]; exact old_cell _ (new_cell2 _ _ _ _ _ _ (by simp) rfl)
  have bp4 : Wn.cell? ⟨w.heap.size, 4, none⟩ = some (v2) := by rw [hn0]; exact old_cell _ (new_cell2 _ _ _ _ _ _ (by simp) rfl)
  have bp5 : Wn.cell? ⟨w.heap.size, 5, none⟩ = some (.int .i64 e2) := by rw [hn0]; exact old_cell _ (new_cell2 _ _ _ _ _ _ (by simp) rfl)
  have R0 : Wn.cell? ⟨w.heap.size + 1, 0, none⟩ = some (.bool false) := by rw [hn0]; exact new_cell2 _ _ _ _ _ _ (by simp) rfl
  have Rf0 : Wn.frozen? ⟨w.heap.size + 1, 0, none⟩ = false := by rw [hn0]; exact new_loose2 _ _ _ _ _ (by simp)
  have R1 : Wn.cell? ⟨w.heap.size + 1, 1, none⟩ = some (.slice none 0 0) := by rw [hn0]; exact new_cell2 _ _ _ _ _ _ (by simp) rfl
  have Rf1 : Wn.frozen? ⟨w.heap.size + 1, 1, none⟩ = false := by rw [hn0]; exact new_loose2 _ _ _ _ _ (by simp)
  have R2 : Wn.cell? ⟨w.heap.size + 1, 2, none⟩ = some (.int .i64 0) := by rw [hn0]; exact new_cell2 _ _ _ _ _ _ (by simp) rfl
  have Rf2 : Wn.frozen? ⟨w.heap.size + 1, 2, none⟩ = false := by rw [hn0]; exact new_loose2 _ _ _ _ _ (by simp)
  have R3 : Wn.cell? ⟨w.heap.size + 1, 3, none⟩ = some (.bool false) := by rw [hn0]; exact new_cell2 _ _ _ _ _ _ (by simp) rfl
  have Rf3 : Wn.frozen? ⟨w.heap.size + 1, 3, none⟩ = false := by rw [hn0]; exact new_loose2 _ _ _ _ _ (by simp)
  have R4 : Wn.cell? ⟨w.heap.size + 1, 4, none⟩ = some (.slice none 0 0) := by rw [hn0]; exact new_cell2 _ _ _ _ _ _ (by simp) rfl
  have Rf4 : Wn.frozen? ⟨w.heap.size + 1, 4, none⟩ = false := by rw [hn0]; exact new_loose2 _ _ _ _ _ (by simp)
  have R5 : Wn.cell? ⟨w.heap.size + 1, 5, none⟩ = some (.int .i64 0) := by rw [hn0]; exact new_cell2 _ _ _ _ _ _ (by simp) rfl
  have Rf5 : Wn.frozen? ⟨w.heap.size + 1, 5, none⟩ = false := by rw [hn0]; exact new_loose2 _ _ _ _ _ (by simp)
  subst hn0
  replace r1 := r1.kept k0 (by omega)
  replace r2 := r2.kept k0 (by omega)
  have s0 : ((w.alloc (.cells #[.bool s1, v1, .int .i64 e1, .bool s2, v2, .int .i64 e2] 38)).alloc (.cells #[.bool false, .slice none 0 0, .int .i64 0, .bool false, .slice none 0 0, .int .i64 0] 38)).heap.size = w.heap.size + 2 := by simp
  obtain ⟨a1, c1, hv⟩ := r1.form'
  subst hv
  obtain ⟨a2, c2, hv⟩ := r2.form'
  subst hv
  have K := hide (k0)
  clear k0
  have S0 := hide s0
  clear s0
  go_enter Tryz.func5, Tryz.ntmps5
  go_wp2_with fail
  generalize ((w.alloc (.cells #[.bool s1, .slice a1 l1.length c1, .int .i64 e1, .bool s2, .slice a2 l2.length c2, .int .i64 e2] 38)).alloc (.cells #[.bool false, .slice none 0 0, .int .i64 0, .bool false, .slice none 0 0, .int .i64 0] 38)) = W at *
  refine (ivok_spec s1 e1 hu1 hd1 s2 e2 hu2 hd2 _ r1 r2).mono ?_
  rintro e w1 ⟨rfl, k1⟩
  replace r1 := r1.kp k1
  replace r2 := r2.kp k1
  replace Rf0 := k1.loose0 (zbl R0) Rf0
  replace Rf1 := k1.loose0 (zbl R1) Rf1
  replace Rf2 := k1.loose0 (zbl R2) Rf2
  replace Rf3 := k1.loose0 (zbl R3) Rf3
  replace Rf4 := k1.loose0 (zbl R4) Rf4
  replace Rf5 := k1.loose0 (zbl R5) Rf5
  replace bp0 := k1.cell0 bp0
  replace bp1 := k1.cell0 bp1
  replace bp2 := k1.cell0 bp2
  replace bp3 := k1.cell0 bp3
  replace bp4 := k1.cell0 bp4
  replace bp5 := k1.cell0 bp5
  replace R0 := k1.cell0 R0
  replace R1 := k1.cell0 R1
  replace R2 := k1.cell0 R2
  replace R3 := k1.cell0 R3
  replace R4 := k1.cell0 R4
  replace R5 := k1.cell0 R5
  replace K := hide ((unhide K).trans k1)
  have z2 := k1.size
  clear k1
  cases ho : iokB s1 l1 e1 s2 l2 e2
  ·have EC : Hid (CC = false) := by show _ = _; rw [← unhide HCC]; exact ivC_no (by rw [ho]; rfl)
   have K7 := hide (((((((unhide K).setNew (p := ⟨w.heap.size + 1, 0, none⟩) (by simp) (.bool false)).setNew (p := ⟨w.heap.size + 1, 1, none⟩) (by simp) (.slice none 0 0)).setNew (p := ⟨w.heap.size + 1, 2, none⟩) (by simp) (.int .i64 0)).setNew (p := ⟨w.heap.size + 1, 3, none⟩) (by simp) (.bool false)).setNew (p := ⟨w.heap.size + 1, 4, none⟩) (by simp) (.slice none 0 0)).setNew (p := ⟨w.heap.size + 1, 5, none⟩) (by simp) (.int .i64 0))
   clear r1 r2 K
   go_wp2_with fail
   exact bodyPost_ret (v := .tuple #[.agg #[.bool false, .slice none 0 0, .int .i64 0, .bool false, .slice none 0 0, .int .i64 0], .bool false]) (by simp [results, Tryz.results5, go_sem, R0, R1, R2, R3, R4, R5]) rfl (by rw [unhide EC]; exact ivS_no (unhide K7))
  obtain ⟨i1, i2, -⟩ := iok_parts ho
  have I1 := hide i1
  have I2 := hide i2
  have HO := hide ho
  clear ho i1 i2
  go_wp2_with fail
  refine (l7low_spec low _).mono ?_
  rintro e w5 ⟨rfl, rfl⟩
  cases hf : fineB low
  ·have EC : Hid (CC = false) := by show _ = _; rw [← unhide HCC]; exact ivC_no (by rw [hf, Bool.and_false]; rfl)
   have K7 := hide (((((((unhide K).setNew (p := ⟨w.heap.size + 1, 0, none⟩) (by simp) (.bool false)).setNew (p := ⟨w.heap.size + 1, 1, none⟩) (by simp) (.slice none 0 0)).setNew (p := ⟨w.heap.size + 1, 2, none⟩) (by simp) (.int .i64 0)).setNew (p := ⟨w.heap.size + 1, 3, none⟩) (by simp) (.bool false)).setNew (p := ⟨w.heap.size + 1, 4, none⟩) (by simp) (.slice none 0 0)).setNew (p := ⟨w.heap.size + 1, 5, none⟩) (by simp) (.int .i64 0))
   clear r1 r2 K
   go_wp2_with fail
   exact bodyPost_ret (v := .tuple #[.agg #[.bool false, .slice none 0 0, .int .i64 0, .bool false, .slice none 0 0, .int .i64 0], .bool false]) (by simp [results, Tryz.results5, go_sem, R0, R1, R2, R3, R4, R5]) rfl (by rw [unhide EC]; exact ivS_no (unhide K7))
  cases s1
  rotate_left
  ·have EC : Hid (CC = false) := by show _ = _; rw [← unhide HCC]; exact ivC_no (by simp)
   have K7 := hide (((((((unhide K).setNew (p := ⟨w.heap.size + 1, 0, none⟩) (by simp) (.bool false)).setNew (p := ⟨w.heap.size + 1, 1, none⟩) (by simp) (.slice none 0 0)).setNew (p := ⟨w.heap.size + 1, 2, none⟩) (by simp) (.int .i64 0)).setNew (p := ⟨w.heap.size + 1, 3, none⟩) (by simp) (.bool false)).setNew (p := ⟨w.heap.size + 1, 4, none⟩) (by simp) (.slice none 0 0)).setNew (p := ⟨w.heap.size + 1, 5, none⟩) (by simp) (.int .i64 0))
   clear r1 r2 K
   go_wp2_with fail
   exact bodyPost_ret (v := .tuple #[.agg #[.bool false, .slice none 0 0, .int .i64 0, .bool false, .slice none 0 0, .int .i64 0], .bool false]) (by simp [results, Tryz.results5, go_sem, R0, R1, R2, R3, R4, R5]) rfl (by rw [unhide EC]; exact ivS_no (unhide K7))
  obtain ⟨f1, f2⟩ := fine_iff hf
  have HC : Hid (((iokB false l1 e1 s2 l2 e2 && fineB low) && !false) = true) := by show _ = _; rw [hf, unhide HO]; rfl
  clear hf
  have mkf : ∀ w' vA vB lo' hi' lo2' hi2', Row .i64 true lo' hi' w' vA Q1 → Row .i64 true lo2' hi2' w' vB Q2 → Calls Tryz.prog 14 #[.agg #[.bool W1, vA, .int .i64 D1, .bool W2, vB, .int .i64 D2]] w' fun e w'' => IvAnsS CC W1 D1 Q1 W2 D2 Q2 w' e w'' := fun w' vA vB lo' hi' lo2' hi2' rA' rB' => by
   have rg1 := rt_rg (unhide I1) low 3 (by omega) (by omega)
   have rg2 := rt_rg (unhide I2) low 2 (by omega) (by omega)
   rw [unhide HD1] at rg1
   rw [unhide HD2] at rg2
   have mk := fits7_spec W1 D1 rg1.1 rg1.2 W2 D2 rg2.1 rg2.2 w' rA' rB'
   have hcc := unhide HCC
   unfold ivC at hcc
   rw [unhide HC, unhide HW1, unhide HD1, unhide HQ1, unhide HW2, unhide HD2, unhide HQ2, Bool.true_and] at hcc
   rw [hcc] at mk
   exact mk
  have mkA := fun w' r' => root7_spec (bw := b1) (lo := w1l) (hi := w.heap.size) (v := .slice a1 l1.length c1) (zs := l1) false e1 low (by omega) (by omega) w' r' (unhide I1) 3 (by decide) (by decide)
  have mkB := fun w' r' => root7_spec (bw := b2) (lo := w2l) (hi := w.heap.size) (v := .slice a2 l2.length c2) (zs := l2) s2 e2 low (by omega) (by omega) w' r' (unhide I2) 2 (by decide) (by decide)
  rw [unhide HW1, unhide HD1, unhide HQ1] at mkA
  rw [unhide HW2, unhide HD2, unhide HQ2] at mkB
  go_wp2_with fail
  have kd := (Kept.refl 0 0 w5).drew
  replace r1 := r1.kp kd
  replace r2 := r2.kp kd
  replace Rf0 := kd.loose0 (zbl R0) Rf0
  replace Rf1 := kd.loose0 (zbl R1) Rf1
  replace Rf2 := kd.loose0 (zbl R2) Rf2
  replace Rf3 := kd.loose0 (zbl R3) Rf3
  replace Rf4 := kd.loose0 (zbl R4) Rf4
  replace Rf5 := kd.loose0 (zbl R5) Rf5
  replace bp0 := kd.cell0 bp0
  replace bp1 := kd.cell0 bp1
  replace bp2 := kd.cell0 bp2
  replace bp3 := kd.cell0 bp3
  replace bp4 := kd.cell0 bp4
  replace bp5 := kd.cell0 bp5
  replace R0 := kd.cell0 R0
  replace R1 := kd.cell0 R1
  replace R2 := kd.cell0 R2
  replace R3 := kd.cell0 R3
  replace R4 := kd.cell0 R4
  replace R5 := kd.cell0 R5
  replace K := hide ((unhide K).trans kd)
  have z3 := kd.size
  clear kd
  refine wp_region_held_drew (S := (fun w' => w'.cell? ⟨w.heap.size, 0, none⟩ = some (.bool false) ∧ w'.cell? ⟨w.heap.size, 1, none⟩ = some (.slice a1 l1.length c1) ∧ w'.cell? ⟨w.heap.size, 2, none⟩ = some (.int .i64 e1) ∧ w'.cell? ⟨w.heap.size, 3, none⟩ = some (.bool s2) ∧ w'.cell? ⟨w.heap.size, 4, none⟩ = some (.slice a2 l2.length c2) ∧ w'.cell? ⟨w.heap.size, 5, none⟩ = some (.int .i64 e2))) (by kernel_rfl) ?_ (fun hH => ?_)
  ·exact ⟨bp0, bp1, bp2, bp3, bp4, bp5⟩
  refine wpAnyH_take (i := 0) (v := .pointer (some ⟨w.heap.size, 0, none⟩)) rfl (by kernel_rfl) (by kernel_rfl) (by kernel_rfl) (fun _ _ _ h => h) (Or.inl ⟨by rfl, ?_⟩) hH ?_
  ·intro wq hSw
   try dsimp only at hSw
   go_simp
  try simp only [Act.put, zq1, zq2, zq3, zq4, zq5, zq6]
  refine wpAnyH_take (i := 1) (v := .agg #[.bool false, .slice a1 l1.length c1, .int .i64 e1]) rfl (by kernel_rfl) (by kernel_rfl) (by kernel_rfl) (fun _ _ _ h => h) (Or.inl ⟨by rfl, ?_⟩) hH ?_
  ·intro wq hSw
   try dsimp only at hSw
   go_simp
  try simp only [Act.put, zq1, zq2, zq3, zq4, zq5, zq6]
  refine wpAnyH_take (i := 2) (v := .int .i64 low) rfl (by kernel_rfl) (by kernel_rfl) (by kernel_rfl) (fun _ _ _ h => h) (Or.inl ⟨by rfl, ?_⟩) hH ?_
  ·intro wq hSw
   try dsimp only at hSw
   go_simp
  try simp only [Act.put, zq1, zq2, zq3, zq4, zq5, zq6]
  refine wpAnyH_take (i := 4) (v := .pointer (some ⟨w.heap.size, 3, none⟩)) rfl (by kernel_rfl) (by kernel_rfl) (by kernel_rfl) (fun _ _ _ h => h) (Or.inl ⟨by rfl, ?_⟩) hH ?_
  ·intro wq hSw
   try dsimp only at hSw
   go_simp
  try simp only [Act.put, zq1, zq2, zq3, zq4, zq5, zq6]
  refine wpAnyH_take (i := 5) (v := .agg #[.bool s2, .slice a2 l2.length c2, .int .i64 e2]) rfl (by kernel_rfl) (by kernel_rfl) (by kernel_rfl) (fun _ _ _ h => h) (Or.inl ⟨by rfl, ?_⟩) hH ?_
  ·intro wq hSw
   try dsimp only at hSw
   go_simp
  try simp only [Act.put, zq1, zq2, zq3, zq4, zq5, zq6]
  refine wpAnyH_take (i := 6) (v := .int .i64 low) rfl (by kernel_rfl) (by kernel_rfl) (by kernel_rfl) (fun _ _ _ h => h) (Or.inl ⟨by rfl, ?_⟩) hH ?_
  ·intro wq hSw
   try dsimp only at hSw
   go_simp
  try simp only [Act.put, zq1, zq2, zq3, zq4, zq5, zq6]
  refine wpAnyH_ready (rs := [3]) (by kernel_rfl) (by simp) ?_
  refine AllReadyH.cons rfl (fun KK hK => ?_) AllReadyH.nil
  simp only [zq1, zq2, zq3]
  rw [if_pos (by rfl)]
  refine wps3r 15 (.tmp 22) (.tmp 23) (.const (.int .i64 3)) _ rfl in_l7root (.agg #[.bool false, .slice a1 l1.length c1, .int .i64 e1]) (.int .i64 low) (.int .i64 3) rfl rfl rfl (mkA _ r1) ?_
  rintro e w4 ⟨vA, rfl, rA, k4⟩
  refine ⟨_, rfl, ?_⟩
  replace r1 := r1.kp k4
  replace r2 := r2.kp k4
  replace Rf0 := k4.loose0 (zbl R0) Rf0
  replace Rf1 := k4.loose0 (zbl R1) Rf1
  replace Rf2 := k4.loose0 (zbl R2) Rf2
  replace Rf3 := k4.loose0 (zbl R3) Rf3
  replace Rf4 := k4.loose0 (zbl R4) Rf4
  replace Rf5 := k4.loose0 (zbl R5) Rf5
  replace bp0 := k4.cell0 bp0
  replace bp1 := k4.cell0 bp1
  replace bp2 := k4.cell0 bp2
  replace bp3 := k4.cell0 bp3
  replace bp4 := k4.cell0 bp4
  replace bp5 := k4.cell0 bp5
  replace R0 := k4.cell0 R0
  replace R1 := k4.cell0 R1
  replace R2 := k4.cell0 R2
  replace R3 := k4.cell0 R3
  replace R4 := k4.cell0 R4
  replace R5 := k4.cell0 R5
  replace K := hide ((unhide K).trans k4)
  have z5 := k4.size
  clear k4
  clear hH
  refine hK.out _ _ ?_ (fun hH => ?_)
  ·exact ⟨bp0, bp1, bp2, bp3, bp4, bp5⟩
  clear hK KK
  try simp only [Act.put, zq1, zq2, zq3, zq4, zq5, zq6]
  obtain ⟨aA, cA, hv⟩ := Row.form' rA
  subst hv
  refine wpAnyH_ready (rs := [7]) (by kernel_rfl) (by simp) ?_
  refine AllReadyH.cons rfl (fun KK hK => ?_) AllReadyH.nil
  simp only [zq1, zq2, zq3]
  rw [if_pos (by rfl)]
  refine wps3r 15 (.tmp 26) (.tmp 27) (.const (.int .i64 2)) _ rfl in_l7root (.agg #[.bool s2, .slice a2 l2.length c2, .int .i64 e2]) (.int .i64 low) (.int .i64 2) rfl rfl rfl (mkB _ r2) ?_
  rintro e w6 ⟨vB, rfl, rB, k6⟩
  refine ⟨_, rfl, ?_⟩
  replace r1 := r1.kp k6
  replace r2 := r2.kp k6
  replace rA := rA.kp k6
  replace Rf0 := k6.loose0 (zbl R0) Rf0
  replace Rf1 := k6.loose0 (zbl R1) Rf1
  replace Rf2 := k6.loose0 (zbl R2) Rf2
  replace Rf3 := k6.loose0 (zbl R3) Rf3
  replace Rf4 := k6.loose0 (zbl R4) Rf4
  replace Rf5 := k6.loose0 (zbl R5) Rf5
  replace bp0 := k6.cell0 bp0
  replace bp1 := k6.cell0 bp1
  replace bp2 := k6.cell0 bp2
  replace bp3 := k6.cell0 bp3
  replace bp4 := k6.cell0 bp4
  replace bp5 := k6.cell0 bp5
  replace R0 := k6.cell0 R0
  replace R1 := k6.cell0 R1
  replace R2 := k6.cell0 R2
  replace R3 := k6.cell0 R3
  replace R4 := k6.cell0 R4
  replace R5 := k6.cell0 R5
  replace K := hide ((unhide K).trans k6)
  have z7 := k6.size
  clear k6
  clear hH
  refine hK.out _ _ ?_ (fun hH => ?_)
  ·exact ⟨bp0, bp1, bp2, bp3, bp4, bp5⟩
  clear hK KK
  try simp only [Act.put, zq1, zq2, zq3, zq4, zq5, zq6]
  obtain ⟨aB, cB, hv⟩ := Row.form' rB
  subst hv
  refine wpAnyH_take (i := 8) (v := .agg #[.bool W1, .slice aA Q1.length cA, .int .i64 D1, .bool W2, .slice aB Q2.length cB, .int .i64 D2]) rfl (by kernel_rfl) (by kernel_rfl) (by kernel_rfl) (fun _ _ _ h => h) (Or.inl ⟨by rfl, ?_⟩) hH ?_
  ·intro wq hSw
   try dsimp only at hSw
   go_simp
  try simp only [Act.put, zq1, zq2, zq3, zq4, zq5, zq6]
  refine wpAnyH_ready (rs := [9]) (by kernel_rfl) (by simp) ?_
  refine AllReadyH.cons rfl (fun KK hK => ?_) AllReadyH.nil
  simp only [zq1, zq2, zq3]
  rw [if_pos (by rfl)]
  refine wps1 14 (.tmp 29) _ rfl in_l7fits (.agg #[.bool W1, .slice aA Q1.length cA, .int .i64 D1, .bool W2, .slice aB Q2.length cB, .int .i64 D2]) rfl (Calls.mono (mkf _ _ _ _ _ _ _ rA rB) (fun e w' h => ivS_open h)) ?_
  rintro e w8 ⟨q1, y1, M1, q2, y2, M2, vL, vM, rfl, rL, rM, k8, hq⟩
  refine ⟨_, rfl, ?_⟩
  replace r1 := r1.kp k8
  replace r2 := r2.kp k8
  replace rA := rA.kp k8
  replace rB := rB.kp k8
  replace Rf0 := k8.loose0 (zbl R0) Rf0
  replace Rf1 := k8.loose0 (zbl R1) Rf1
  replace Rf2 := k8.loose0 (zbl R2) Rf2
  replace Rf3 := k8.loose0 (zbl R3) Rf3
  replace Rf4 := k8.loose0 (zbl R4) Rf4
  replace Rf5 := k8.loose0 (zbl R5) Rf5
  replace bp0 := k8.cell0 bp0
  replace bp1 := k8.cell0 bp1
  replace bp2 := k8.cell0 bp2
  replace bp3 := k8.cell0 bp3
  replace bp4 := k8.cell0 bp4
  replace bp5 := k8.cell0 bp5
  replace R0 := k8.cell0 R0
  replace R1 := k8.cell0 R1
  replace R2 := k8.cell0 R2
  replace R3 := k8.cell0 R3
  replace R4 := k8.cell0 R4
  replace R5 := k8.cell0 R5
  replace K := hide ((unhide K).trans k8)
  have z9 := k8.size
  clear k8
  clear hH
  refine hK.out _ _ ?_ (fun hH => ?_)
  ·exact ⟨bp0, bp1, bp2, bp3, bp4, bp5⟩
  clear hK KK
  try simp only [Act.put, zq1, zq2, zq3, zq4, zq5, zq6]
  have HQ := hide hq
  clear hq
  obtain ⟨aL, dL, hv⟩ := Row.form' rL
  subst hv
  obtain ⟨aM, dM, hv⟩ := Row.form' rM
  subst hv
  refine wpAnyH_take (i := 10) (v := .agg #[.bool q1, .slice aL M1.length dL, .int .i64 y1, .bool q2, .slice aM M2.length dM, .int .i64 y2]) rfl (by kernel_rfl) (by kernel_rfl) (by kernel_rfl) (fun _ _ _ h => h) (Or.inl ⟨by rfl, ?_⟩) hH ?_
  ·intro wq hSw
   try dsimp only at hSw
   go_simp
  try simp only [Act.put, zq1, zq2, zq3, zq4, zq5, zq6]
  refine wpAnyH_take (i := 11) (v := .bool CC) rfl (by kernel_rfl) (by kernel_rfl) (by kernel_rfl) (fun _ _ _ h => h) (Or.inl ⟨by rfl, ?_⟩) hH ?_
  ·intro wq hSw
   try dsimp only at hSw
   go_simp
  try simp only [Act.put, zq1, zq2, zq3, zq4, zq5, zq6]
  refine wpAnyH_ready (rs := [12]) (by kernel_rfl) (by simp) ?_
  refine AllReadyH.cons rfl (fun KK hK => ?_) AllReadyH.nil
  simp only [zq1, zq2, zq3]
  rw [if_pos (by rfl)]
  go_simp
  clear hH
  refine hK.out _ _ ?_ (fun hH => ?_)
  ·exact ⟨(cw6 (by have := unhide S0; dsimp only; omega) bp0), (cw6 (by have := unhide S0; dsimp only; omega) bp1), (cw6 (by have := unhide S0; dsimp only; omega) bp2), (cw6 (by have := unhide S0; dsimp only; omega) bp3), (cw6 (by have := unhide S0; dsimp only; omega) bp4), (cw6 (by have := unhide S0; dsimp only; omega) bp5)⟩
  clear hK KK
  try simp only [Act.put, zq1, zq2, zq3, zq4, zq5, zq6]
  refine wpAnyH_take (i := 13) (v := .bool CC) rfl (by kernel_rfl) (by kernel_rfl) (by kernel_rfl) (fun _ _ _ h => h) (Or.inl ⟨by rfl, ?_⟩) hH ?_
  ·intro wq hSw
   try dsimp only at hSw
   go_simp
  try simp only [Act.put, zq1, zq2, zq3, zq4, zq5, zq6]
  refine wpAnyH_done (by kernel_rfl) ?_ _
  clear hH
  clear mkA mkB mkf
  have RA := hide (((((((rL.set_other (p := ⟨w.heap.size + 1, 0, none⟩) (.inl (by have := unhide S0; dsimp only; omega)) (.bool q1)).set_other (p := ⟨w.heap.size + 1, 1, none⟩) (.inl (by have := unhide S0; dsimp only; omega)) (.slice aL M1.length dL)).set_other (p := ⟨w.heap.size + 1, 2, none⟩) (.inl (by have := unhide S0; dsimp only; omega)) (.int .i64 y1)).set_other (p := ⟨w.heap.size + 1, 3, none⟩) (.inl (by have := unhide S0; dsimp only; omega)) (.bool q2)).set_other (p := ⟨w.heap.size + 1, 4, none⟩) (.inl (by have := unhide S0; dsimp only; omega)) (.slice aM M2.length dM)).set_other (p := ⟨w.heap.size + 1, 5, none⟩) (.inl (by have := unhide S0; dsimp only; omega)) (.int .i64 y2)).tight.wider (lo' := w.heap.size) (by have := unhide S0; omega) (Nat.le_refl _))
  have RB := hide (((((((rM.set_other (p := ⟨w.heap.size + 1, 0, none⟩) (.inl (by have := unhide S0; dsimp only; omega)) (.bool q1)).set_other (p := ⟨w.heap.size + 1, 1, none⟩) (.inl (by have := unhide S0; dsimp only; omega)) (.slice aL M1.length dL)).set_other (p := ⟨w.heap.size + 1, 2, none⟩) (.inl (by have := unhide S0; dsimp only; omega)) (.int .i64 y1)).set_other (p := ⟨w.heap.size + 1, 3, none⟩) (.inl (by have := unhide S0; dsimp only; omega)) (.bool q2)).set_other (p := ⟨w.heap.size + 1, 4, none⟩) (.inl (by have := unhide S0; dsimp only; omega)) (.slice aM M2.length dM)).set_other (p := ⟨w.heap.size + 1, 5, none⟩) (.inl (by have := unhide S0; dsimp only; omega)) (.int .i64 y2)).tight.wider (lo' := w.heap.size) (by have := unhide S0; omega) (Nat.le_refl _))
  have K7 := hide (((((((unhide K).setNew (p := ⟨w.heap.size + 1, 0, none⟩) (by simp) (.bool q1)).setNew (p := ⟨w.heap.size + 1, 1, none⟩) (by simp) (.slice aL M1.length dL)).setNew (p := ⟨w.heap.size + 1, 2, none⟩) (by simp) (.int .i64 y1)).setNew (p := ⟨w.heap.size + 1, 3, none⟩) (by simp) (.bool q2)).setNew (p := ⟨w.heap.size + 1, 4, none⟩) (by simp) (.slice aM M2.length dM)).setNew (p := ⟨w.heap.size + 1, 5, none⟩) (by simp) (.int .i64 y2))
  clear r1 r2 rA rB rL rM K
  go_wp2_with fail
  exact bodyPost_ret (v := .tuple #[.agg #[.bool q1, .slice aL M1.length dL, .int .i64 y1, .bool q2, .slice aM M2.length dM, .int .i64 y2], .bool CC]) (by simp [results, Tryz.results5, go_sem, R0, R1, R2, R3, R4, R5]) rfl (ivS_shut (unhide HQ) (unhide RA) (unhide RB) (unhide K7))

end Go.Proofs.YtadbdchjhglldaaGreatDoor

