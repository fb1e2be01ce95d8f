/-
  Intervals of the program: IvRoot.
-/
import Derived.Test.YtadbdchjhglldaaGreatDoorIv1D
import Derived.Test.YtadbdchjhglldaaGreatDoorIv2C
import Derived.Test.YtadbdchjhglldaaGreatDoorIv7
import Derived.Test.YtadbdchjhglldaaGreatDoorRt4
import Derived.Deep.DeepCutAuto
import Derived.Deep.RegionHeld3
namespace Go.Proofs.YtadbdchjhglldaaGreatDoor
open Go.RowKit
set_option linter.unusedVariables false
set_option maxRecDepth 8000
set_option linter.unusedSimpArgs false

theorem nrm_pos9 {ys : List Int} (hn : Nrm ys) (h0 : ys.length ≠ 0) : 0 < val ys := by
  have e1 := nrm_pow hn (fun e => h0 (by rw [e]; rfl))
  have : (0 : Int) < 65536 ^ (ys.length - 1) := Int.pow_pos (by decide)
  omega
theorem iok_pos {l1 l2 : List Int} {e1 e2 : Int} {s2 : Bool} (h : iokB false l1 e1 s2 l2 e2 = true) : s2 = false := by
  obtain ⟨h1, h2, h3⟩ := iok_parts h
  rw [cmpD_ok h1 h2] at h3
  cases s2
  ·rfl
  ·exfalso
   have g1 := wok_wn (dok_parts h1).1
   have g2 := wok_wn (dok_parts h2).1
   have p2 : 0 < val l2 := nrm_pos9 g2.1 (by have := g2.2 rfl; omega)
   have p1 := val_nonneg g1.1.1
   unfold cmpDI at h3
   have w1 : wval false l1 = val l1 := by unfold wval; simp
   have w2 : wval true l2 = -val l2 := by unfold wval; simp
   rw [w1, w2] at h3
   have q1 : 0 ≤ val l1 * 2 ^ (e1 - min e1 e2).toNat := Int.mul_nonneg p1 (Int.le_of_lt (Int.pow_pos (by decide)))
   have q2 : -val l2 * 2 ^ (e2 - min e1 e2).toNat < 0 := Int.mul_neg_of_neg_of_pos (by omega) (Int.pow_pos (by decide))
   rw [cmpI_gt (by omega)] at h3
   omega

set_option maxHeartbeats 2000000 in
theorem ivroot1_impl {bw : Bool} {lo hi p : Nat} {v : Value} {zs : List Int} (s : Bool) (x : Int) (hx1 : x ≤ 9223372036854775807) (hx0 : -9223372036854775808 ≤ x) (low mode : Int) (w : World) (r : Row .i64 bw lo hi w v zs) (hc : w.cell? ⟨p, 0, none⟩ = some (.int .i64 low)) (T : TabB w) :
    Calls Tryz.prog 20 #[.agg #[.bool s, v, .int .i64 x], .int .i64 mode, .pointer (some ⟨p, 0, none⟩)] w fun e w' => ∃ v', e = .returned (.tuple #[.agg #[.bool (ansDS ((dokB s zs x && !s) && mayR low mode) (rtM mode.toNat (val zs).toNat (x - 2 * (low - 1))) (low)), v', .int .i64 (ansDE ((dokB s zs x && !s) && mayR low mode) (rtM mode.toNat (val zs).toNat (x - 2 * (low - 1))) (low))], .bool (ansDB ((dokB s zs x && !s) && mayR low mode) (rtM mode.toNat (val zs).toNat (x - 2 * (low - 1))) (low))]) ∧ Row .i64 true w.heap.size w'.heap.size w' v' (ansDL ((dokB s zs x && !s) && mayR low mode) (rtM mode.toNat (val zs).toNat (x - 2 * (low - 1))) (low)) ∧ Kept 0 0 w w' := by
  obtain ⟨GS, hGS⟩ : ∃ y, ansDS ((dokB s zs x && !s) && mayR low mode) (rtM mode.toNat (val zs).toNat (x - 2 * (low - 1))) (low) = y := ⟨_, rfl⟩
  obtain ⟨GL, hGL⟩ : ∃ y, ansDL ((dokB s zs x && !s) && mayR low mode) (rtM mode.toNat (val zs).toNat (x - 2 * (low - 1))) (low) = y := ⟨_, rfl⟩
  obtain ⟨GE, hGE⟩ : ∃ y, ansDE ((dokB s zs x && !s) && mayR low mode) (rtM mode.toNat (val zs).toNat (x - 2 * (low - 1))) (low) = y := ⟨_, rfl⟩
  obtain ⟨GB, hGB⟩ : ∃ y, ansDB ((dokB s zs x && !s) && mayR low mode) (rtM mode.toNat (val zs).toNat (x - 2 * (low - 1))) (low) = y := ⟨_, rfl⟩
  try rw [hGS]
  try rw [hGL]
  try rw [hGE]
  try rw [hGB]
  have HGS := hide hGS
  have HGL := hide hGL
  have HGE := hide hGE
  have HGB := hide hGB
  clear hGS hGL hGE hGB
  have hcp : p < w.heap.size := zbl hc
  obtain ⟨Wn, hn0⟩ : ∃ wz, wz = ((w.alloc (.cells #[.bool s, v, .int .i64 x] 36)).alloc (.cells #[.bool false, .slice none 0 0, .int .i64 0] 36)) := ⟨_, rfl⟩
  have k0 : Kept 0 0 w Wn := by rw [hn0]; exact (((Kept.refl 0 0 w).alloc _).alloc _)
  have bp0 : Wn.cell? ⟨w.heap.size, 0, none⟩ = some (.bool s) := by rw [hn0]; exact old_cell _ (new_cell2 _ _ _ _ _ _ (by simp) rfl)
  have bp1 : Wn.cell? ⟨w.heap.size, 1, none⟩ = some (v) := by rw [hn0]; exact old_cell _ (new_cell2 _ _ _ _ _ _ (by simp) rfl)
  have bp2 : Wn.cell? ⟨w.heap.size, 2, none⟩ = some (.int .i64 x) := by rw [hn0]; exact old_cell _ (new_cell2 _ _ _ _ _ _ (by simp) rfl)
  have q0 : Wn.cell? ⟨w.heap.size + 1, 0, none⟩ = some (.bool false) := by rw [hn0]; exact new_cell2 _ _ _ _ _ _ (by simp) rfl
  have qf0 : Wn.frozen? ⟨w.heap.size + 1, 0, none⟩ = false := by rw [hn0]; exact new_loose2 _ _ _ _ _ (by simp)
  have q1 : Wn.cell? ⟨w.heap.size + 1, 1, none⟩ = some (.slice none 0 0) := by rw [hn0]; exact new_cell2 _ _ _ _ _ _ (by simp) rfl
  have qf1 : Wn.frozen? ⟨w.heap.size + 1, 1, none⟩ = false := by rw [hn0]; exact new_loose2 _ _ _ _ _ (by simp)
  have q2 : Wn.cell? ⟨w.heap.size + 1, 2, none⟩ = some (.int .i64 0) := by rw [hn0]; exact new_cell2 _ _ _ _ _ _ (by simp) rfl
  have qf2 : Wn.frozen? ⟨w.heap.size + 1, 2, none⟩ = false := by rw [hn0]; exact new_loose2 _ _ _ _ _ (by simp)
  subst hn0
  replace r := r.kept k0 (by omega)
  replace hc := k0.cell0 hc
  have s0 : ((w.alloc (.cells #[.bool s, v, .int .i64 x] 36)).alloc (.cells #[.bool false, .slice none 0 0, .int .i64 0] 36)).heap.size = w.heap.size + 2 := by simp
  obtain ⟨a, c, hv⟩ := r.form'
  subst hv
  have K := hide (k0)
  clear k0
  have S0 := hide s0
  clear s0
  go_enter Tryz.func20, Tryz.ntmps20
  go_wp2_with fail
  generalize ((w.alloc (.cells #[.bool s, .slice a zs.length c, .int .i64 x] 36)).alloc (.cells #[.bool false, .slice none 0 0, .int .i64 0] 36)) = W at *
  have mk := droot_impl s x hx1 hx0 low mode W r (T.kept (unhide K))
  rw [unhide HGS, unhide HGL, unhide HGE, unhide HGB] at mk
  refine (mk).mono ?_
  rintro e w1 ⟨v7, rfl, r7, k1⟩
  replace r := r.kp k1
  replace qf0 := k1.loose0 (zbl q0) qf0
  replace qf1 := k1.loose0 (zbl q1) qf1
  replace qf2 := k1.loose0 (zbl q2) qf2
  replace bp0 := k1.cell0 bp0
  replace bp1 := k1.cell0 bp1
  replace bp2 := k1.cell0 bp2
  replace q0 := k1.cell0 q0
  replace q1 := k1.cell0 q1
  replace q2 := k1.cell0 q2
  replace hc := k1.cell0 hc
  replace K := hide ((unhide K).trans k1)
  have z2 := k1.size
  clear k1
  clear mk
  obtain ⟨a7, c7, hv⟩ := Row.form' r7
  subst hv
  clear r
  have R := hide ((((r7.set_other (p := ⟨w.heap.size + 1, 0, none⟩) (.inl (by have := unhide S0; dsimp only; omega)) (.bool GS)).set_other (p := ⟨w.heap.size + 1, 1, none⟩) (.inl (by have := unhide S0; dsimp only; omega)) (.slice a7 GL.length c7)).set_other (p := ⟨w.heap.size + 1, 2, none⟩) (.inl (by have := unhide S0; dsimp only; omega)) (.int .i64 GE)).tight.wider (lo' := w.heap.size) (by have := unhide S0; omega) (Nat.le_refl _))
  have K7 := hide ((((unhide K).setNew (p := ⟨w.heap.size + 1, 0, none⟩) (by simp) (.bool GS)).setNew (p := ⟨w.heap.size + 1, 1, none⟩) (by simp) (.slice a7 GL.length c7)).setNew (p := ⟨w.heap.size + 1, 2, none⟩) (by simp) (.int .i64 GE))
  clear r7 K 
  go_wp2_with fail
  exact bodyPost_ret (v := .tuple #[.agg #[.bool GS, .slice a7 GL.length c7, .int .i64 GE], .bool GB]) (by simp [results, Tryz.results20, go_sem, q0, q1, q2]) rfl ⟨_, rfl, unhide R, unhide K7⟩

theorem in_ivroot1 : ∀ (w : World) (args : Array Value), (callFunc 20 args).run Tryz.prog w = .ok (.enter 20 args) w := enters Tryz.func20 (by decide) (fun h => by cases h)

set_option maxHeartbeats 4000000 in
theorem ivroot_impl {b1 b2 : Bool} {w1l w1h w2l w2h : Nat} {v1 v2 : Value} {l1 l2 : List Int} (s1 : Bool) (e1 : Int) (hu1 : e1 ≤ 9223372036854775807) (hd1 : -9223372036854775808 ≤ e1) (s2 : Bool) (e2 : Int) (hu2 : e2 ≤ 9223372036854775807) (hd2 : -9223372036854775808 ≤ e2) (w : World) (r1 : Row .i64 b1 w1l w1h w v1 l1) (r2 : Row .i64 b2 w2l w2h w v2 l2) (low : Int) (T : TabB w) :
    Calls Tryz.prog 7 #[.agg #[.bool s1, v1, .int .i64 e1, .bool s2, v2, .int .i64 e2], .int .i64 low] w fun e w' => IvAns (ivC ((iokB s1 l1 e1 s2 l2 e2 && fineB low) && !s1) (rtM (3 : Int).toNat (val l1).toNat (e1 - 2 * (low - 1))) (low) (rtM (2 : Int).toNat (val l2).toNat (e2 - 2 * (low - 1))) (low)) (wsg (rtM (3 : Int).toNat (val l1).toNat (e1 - 2 * (low - 1)))) (dex (rtM (3 : Int).toNat (val l1).toNat (e1 - 2 * (low - 1))) (low)) (dlm (rtM (3 : Int).toNat (val l1).toNat (e1 - 2 * (low - 1)))) (wsg (rtM (2 : Int).toNat (val l2).toNat (e2 - 2 * (low - 1)))) (dex (rtM (2 : Int).toNat (val l2).toNat (e2 - 2 * (low - 1))) (low)) (dlm (rtM (2 : Int).toNat (val l2).toNat (e2 - 2 * (low - 1)))) w e w' := by
  replace r1 := r1.tight
  replace r2 := r2.tight
  obtain ⟨CC, hCC⟩ : ∃ c, ivC ((iokB s1 l1 e1 s2 l2 e2 && fineB low) && !s1) (rtM (3 : Int).toNat (val l1).toNat (e1 - 2 * (low - 1))) (low) (rtM (2 : Int).toNat (val l2).toNat (e2 - 2 * (low - 1))) (low) = c := ⟨_, rfl⟩
  rw [hCC]
  have HCC := hide hCC
  clear hCC
  obtain ⟨W1, hW1⟩ : ∃ c, wsg (rtM (3 : Int).toNat (val l1).toNat (e1 - 2 * (low - 1))) = c := ⟨_, rfl⟩
  obtain ⟨D1, hD1⟩ : ∃ c, dex (rtM (3 : Int).toNat (val l1).toNat (e1 - 2 * (low - 1))) (low) = c := ⟨_, rfl⟩
  obtain ⟨Q1, hQ1⟩ : ∃ c, dlm (rtM (3 : Int).toNat (val l1).toNat (e1 - 2 * (low - 1))) = c := ⟨_, rfl⟩
  obtain ⟨W2, hW2⟩ : ∃ c, wsg (rtM (2 : Int).toNat (val l2).toNat (e2 - 2 * (low - 1))) = c := ⟨_, rfl⟩
  obtain ⟨D2, hD2⟩ : ∃ c, dex (rtM (2 : Int).toNat (val l2).toNat (e2 - 2 * (low - 1))) (low) = c := ⟨_, rfl⟩
  obtain ⟨Q2, hQ2⟩ : ∃ c, dlm (rtM (2 : Int).toNat (val l2).toNat (e2 - 2 * (low - 1))) = c := ⟨_, rfl⟩
  try rw [hW1]
  try rw [hD1]
  try rw [hQ1]
  try rw [hW2]
  try rw [hD2]
  try rw [hQ2]
  have HW1 := hide hW1
  clear hW1
  have HD1 := hide hD1
  clear hD1
  have HQ1 := hide hQ1
  clear hQ1
  have HW2 := hide hW2
  clear hW2
  have HD2 := hide hD2
  clear hD2
  have HQ2 := hide hQ2
  clear hQ2
  obtain ⟨Wn, hn0⟩ : ∃ wz, wz = (((w.alloc (.cells #[.bool s1, v1, .int .i64 e1, .bool s2, v2, .int .i64 e2] 38)).alloc (.cells #[.int .i64 low] 3)).alloc (.cells #[.bool false, .slice none 0 0, .int .i64 0, .bool false, .slice none 0 0, .int .i64 0] 38)) := ⟨_, rfl⟩
  have k0 : Kept 0 0 w Wn := by rw [hn0]; exact ((((Kept.refl 0 0 w).alloc _).alloc _).alloc _)
  have bp0 : Wn.cell? ⟨w.heap.size, 0, none⟩ = some (.bool s1) := by rw [hn0]; exact old_cell _ (old_cell _ (new_cell2 _ _ _ _ _ _ (by simp) rfl))
  have bp1 : Wn.cell? ⟨w.heap.size, 1, none⟩ = some (v1) := by rw [hn0]; exact old_cell _ (old_cell _ (new_cell2 _ _ _ _ _ _ (by simp) rfl))
  have bp2 : Wn.cell? ⟨w.heap.size, 2, none⟩ = some (.int .i64 e1) := by rw [hn0]; exact old_cell _ (old_cell _ (new_cell2 _ _ _ _ _ _ (by simp) rfl))
  have bp3 : Wn.cell? ⟨w.heap.size, 3, none⟩ = some (.bool s2) := by rw [hn0]; exact old_cell _ (old_cell _ (new_cell2 _ _ _ _ _ _ (by simp) rfl))
  have bp4 : Wn.cell? ⟨w.heap.size, 4, none⟩ = some (v2) := by rw [hn0]; exact old_cell _ (old_cell _ (new_cell2 _ _ _ _ _ _ (by simp) rfl))
  have bp5 : Wn.cell? ⟨w.heap.size, 5, none⟩ = some (.int .i64 e2) := by rw [hn0]; exact old_cell _ (old_cell _ (new_cell2 _ _ _ _ _ _ (by simp) rfl))
  have bl0 : Wn.cell? ⟨w.heap.size + 1, 0, none⟩ = some (.int .i64 low) := by rw [hn0]; exact old_cell _ (new_cell2 _ _ _ _ _ _ (by simp) rfl)
  have R0 : Wn.cell? ⟨w.heap.size + 2, 0, none⟩ = some (.bool false) := by rw [hn0]; exact new_cell2 _ _ _ _ _ _ (by simp) rfl
  have Rf0 : Wn.frozen? ⟨w.heap.size + 2, 0, none⟩ = false := by rw [hn0]; exact new_loose2 _ _ _ _ _ (by simp)
  have R1 : Wn.cell? ⟨w.heap.size + 2, 1, none⟩ = some (.slice none 0 0) := by rw [hn0]; exact new_cell2 _ _ _ _ _ _ (by simp) rfl
  have Rf1 : Wn.frozen? ⟨w.heap.size + 2, 1, none⟩ = false := by rw [hn0]; exact new_loose2 _ _ _ _ _ (by simp)
  have R2 : Wn.cell? ⟨w.heap.size + 2, 2, none⟩ = some (.int .i64 0) := by rw [hn0]; exact new_cell2 _ _ _ _ _ _ (by simp) rfl
  have Rf2 : Wn.frozen? ⟨w.heap.size + 2, 2, none⟩ = false := by rw [hn0]; exact new_loose2 _ _ _ _ _ (by simp)
  have R3 : Wn.cell? ⟨w.heap.size + 2, 3, none⟩ = some (.bool false) := by rw [hn0]; exact new_cell2 _ _ _ _ _ _ (by simp) rfl
  have Rf3 : Wn.frozen? ⟨w.heap.size + 2, 3, none⟩ = false := by rw [hn0]; exact new_loose2 _ _ _ _ _ (by simp)
  have R4 : Wn.cell? ⟨w.heap.size + 2, 4, none⟩ = some (.slice none 0 0) := by rw [hn0]; exact new_cell2 _ _ _ _ _ _ (by simp) rfl
  have Rf4 : Wn.frozen? ⟨w.heap.size + 2, 4, none⟩ = false := by rw [hn0]; exact new_loose2 _ _ _ _ _ (by simp)
  have R5 : Wn.cell? ⟨w.heap.size + 2, 5, none⟩ = some (.int .i64 0) := by rw [hn0]; exact new_cell2 _ _ _ _ _ _ (by simp) rfl
  have Rf5 : Wn.frozen? ⟨w.heap.size + 2, 5, none⟩ = false := by rw [hn0]; exact new_loose2 _ _ _ _ _ (by simp)
  subst hn0
  replace r1 := r1.kept k0 (by omega)
  replace r2 := r2.kept k0 (by omega)
  have s0 : (((w.alloc (.cells #[.bool s1, v1, .int .i64 e1, .bool s2, v2, .int .i64 e2] 38)).alloc (.cells #[.int .i64 low] 3)).alloc (.cells #[.bool false, .slice none 0 0, .int .i64 0, .bool false, .slice none 0 0, .int .i64 0] 38)).heap.size = w.heap.size + 3 := by simp
  obtain ⟨a1, c1, hv⟩ := r1.form'
  subst hv
  obtain ⟨a2, c2, hv⟩ := r2.form'
  subst hv
  have K := hide (k0)
  clear k0
  have S0 := hide s0
  clear s0
  go_enter Tryz.func7, Tryz.ntmps7
  go_wp2_with fail
  generalize (((w.alloc (.cells #[.bool s1, .slice a1 l1.length c1, .int .i64 e1, .bool s2, .slice a2 l2.length c2, .int .i64 e2] 38)).alloc (.cells #[.int .i64 low] 3)).alloc (.cells #[.bool false, .slice none 0 0, .int .i64 0, .bool false, .slice none 0 0, .int .i64 0] 38)) = W at *
  refine (ivok_impl s1 e1 hu1 hd1 s2 e2 hu2 hd2 _ r1 r2).mono ?_
  rintro e w1 ⟨rfl, k1⟩
  replace r1 := r1.kp k1
  replace r2 := r2.kp k1
  replace Rf0 := k1.loose0 (zbl R0) Rf0
  replace Rf1 := k1.loose0 (zbl R1) Rf1
  replace Rf2 := k1.loose0 (zbl R2) Rf2
  replace Rf3 := k1.loose0 (zbl R3) Rf3
  replace Rf4 := k1.loose0 (zbl R4) Rf4
  replace Rf5 := k1.loose0 (zbl R5) Rf5
  replace bp0 := k1.cell0 bp0
  replace bp1 := k1.cell0 bp1
  replace bp2 := k1.cell0 bp2
  replace bp3 := k1.cell0 bp3
  replace bp4 := k1.cell0 bp4
  replace bp5 := k1.cell0 bp5
  replace bl0 := k1.cell0 bl0
  replace R0 := k1.cell0 R0
  replace R1 := k1.cell0 R1
  replace R2 := k1.cell0 R2
  replace R3 := k1.cell0 R3
  replace R4 := k1.cell0 R4
  replace R5 := k1.cell0 R5
  replace K := hide ((unhide K).trans k1)
  have z2 := k1.size
  clear k1
  cases ho : iokB s1 l1 e1 s2 l2 e2
  ·have EC : Hid (CC = false) := by show _ = _; rw [← unhide HCC]; exact ivC_no (by rw [ho]; rfl)
   have K7 := hide (((((((unhide K).setNew (p := ⟨w.heap.size + 2, 0, none⟩) (by simp) (.bool false)).setNew (p := ⟨w.heap.size + 2, 1, none⟩) (by simp) (.slice none 0 0)).setNew (p := ⟨w.heap.size + 2, 2, none⟩) (by simp) (.int .i64 0)).setNew (p := ⟨w.heap.size + 2, 3, none⟩) (by simp) (.bool false)).setNew (p := ⟨w.heap.size + 2, 4, none⟩) (by simp) (.slice none 0 0)).setNew (p := ⟨w.heap.size + 2, 5, none⟩) (by simp) (.int .i64 0))
   clear r1 r2 K
   go_wp2_with fail
   exact bodyPost_ret (v := .tuple #[.agg #[.bool false, .slice none 0 0, .int .i64 0, .bool false, .slice none 0 0, .int .i64 0], .bool false]) (by simp [results, Tryz.results7, go_sem, R0, R1, R2, R3, R4, R5]) rfl (by rw [unhide EC]; exact ivAns_no (unhide K7))
  obtain ⟨i1, i2, -⟩ := iok_parts ho
  have I1 := hide i1
  have I2 := hide i2
  have HO := hide ho
  clear ho i1 i2
  go_wp2_with fail
  refine (isFine_impl low _).mono ?_
  rintro e w5 ⟨rfl, rfl⟩
  cases hf : fineB low
  ·have EC : Hid (CC = false) := by show _ = _; rw [← unhide HCC]; exact ivC_no (by rw [hf, Bool.and_false]; rfl)
   have K7 := hide (((((((unhide K).setNew (p := ⟨w.heap.size + 2, 0, none⟩) (by simp) (.bool false)).setNew (p := ⟨w.heap.size + 2, 1, none⟩) (by simp) (.slice none 0 0)).setNew (p := ⟨w.heap.size + 2, 2, none⟩) (by simp) (.int .i64 0)).setNew (p := ⟨w.heap.size + 2, 3, none⟩) (by simp) (.bool false)).setNew (p := ⟨w.heap.size + 2, 4, none⟩) (by simp) (.slice none 0 0)).setNew (p := ⟨w.heap.size + 2, 5, none⟩) (by simp) (.int .i64 0))
   clear r1 r2 K
   go_wp2_with fail
   exact bodyPost_ret (v := .tuple #[.agg #[.bool false, .slice none 0 0, .int .i64 0, .bool false, .slice none 0 0, .int .i64 0], .bool false]) (by simp [results, Tryz.results7, go_sem, R0, R1, R2, R3, R4, R5]) rfl (by rw [unhide EC]; exact ivAns_no (unhide K7))
  have HF := hide hf
  clear hf
  go_wp2_with fail
  have mb := bothEnds_C s1 s2 e1 e2 20 (.pointer (some ⟨w.heap.size + 1, 0, none⟩)) in_ivroot1 w5 (fun w1 kk => ivroot1_impl s1 e1 hu1 hd1 low 3 w1 (r1.kept kk (by omega)) (kk.cell0 bl0) ((T.kept (unhide K)).kept kk)) (fun w1 kk => ivroot1_impl s2 e2 hu2 hd2 low 2 w1 (r2.kept kk (by omega)) (kk.cell0 bl0) ((T.kept (unhide K)).kept kk))
  have mk := mb.mono (fun e w' h => show IvAns CC W1 D1 Q1 W2 D2 Q2 w5 e w' from by
   cases hs1 : s1
   ·have hs2 : s2 = false := by have h := unhide HO; rw [hs1] at h; exact iok_pos h
    have SG := hide (And.intro hs1 hs2)
    have HC : ((iokB s1 l1 e1 s2 l2 e2 && fineB low) && !s1) = true := by rw [unhide HO, unhide HF, hs1]; rfl
    have hh := ivAns_ans HC (show ((dokB s1 l1 e1 && !s1) && mayR low 3) = true by rw [unhide I1, fine_mayR (unhide HF) 3 (by decide) (by decide), (unhide SG).1]; rfl) (show ((dokB s2 l2 e2 && !s2) && mayR low 2) = true by rw [unhide I2, fine_mayR (unhide HF) 2 (by decide) (by decide), (unhide SG).2]; rfl) h
    rw [unhide HCC, unhide HW1, unhide HD1, unhide HQ1, unhide HW2, unhide HD2, unhide HQ2] at hh
    exact hh
   ·have hcc : CC = false := by rw [← unhide HCC]; exact ivC_no (by rw [hs1, Bool.not_true, Bool.and_false])
    have hb : ansDB ((dokB s1 l1 e1 && !s1) && mayR low 3) (rtM (3 : Int).toNat (val l1).toNat (e1 - 2 * (low - 1))) low = false := ansDB_no (by rw [hs1]; simp)
    rw [hcc]
    rw [hb, Bool.false_and] at h
    exact ivAns_false h)
  clear mb
  refine (mk).mono ?_
  rintro e w3 h5
  skip
  obtain ⟨q1, y1, M1, q2, y2, M2, vL, vM, mid, rfl, rL, rM, hm1, hm2, k5, hq⟩ := ivAns_open h5
  have HQ := hide hq
  clear hq h5
  replace r1 := r1.kp k5
  replace r2 := r2.kp k5
  replace Rf0 := k5.loose0 (zbl R0) Rf0
  replace Rf1 := k5.loose0 (zbl R1) Rf1
  replace Rf2 := k5.loose0 (zbl R2) Rf2
  replace Rf3 := k5.loose0 (zbl R3) Rf3
  replace Rf4 := k5.loose0 (zbl R4) Rf4
  replace Rf5 := k5.loose0 (zbl R5) Rf5
  replace bp0 := k5.cell0 bp0
  replace bp1 := k5.cell0 bp1
  replace bp2 := k5.cell0 bp2
  replace bp3 := k5.cell0 bp3
  replace bp4 := k5.cell0 bp4
  replace bp5 := k5.cell0 bp5
  replace bl0 := k5.cell0 bl0
  replace R0 := k5.cell0 R0
  replace R1 := k5.cell0 R1
  replace R2 := k5.cell0 R2
  replace R3 := k5.cell0 R3
  replace R4 := k5.cell0 R4
  replace R5 := k5.cell0 R5
  replace K := hide ((unhide K).trans k5)
  have z4 := k5.size
  clear k5
  obtain ⟨aL, dL, hv⟩ := Row.form' rL
  subst hv
  obtain ⟨aM, dM, hv⟩ := Row.form' rM
  subst hv
  have RL := hide ((((((rL.set_other (p := ⟨w.heap.size + 2, 0, none⟩) (.inl (by have := unhide S0; dsimp only; omega)) (.bool q1)).set_other (p := ⟨w.heap.size + 2, 1, none⟩) (.inl (by have := unhide S0; dsimp only; omega)) (.slice aL M1.length dL)).set_other (p := ⟨w.heap.size + 2, 2, none⟩) (.inl (by have := unhide S0; dsimp only; omega)) (.int .i64 y1)).set_other (p := ⟨w.heap.size + 2, 3, none⟩) (.inl (by have := unhide S0; dsimp only; omega)) (.bool q2)).set_other (p := ⟨w.heap.size + 2, 4, none⟩) (.inl (by have := unhide S0; dsimp only; omega)) (.slice aM M2.length dM)).set_other (p := ⟨w.heap.size + 2, 5, none⟩) (.inl (by have := unhide S0; dsimp only; omega)) (.int .i64 y2))
  have RM := hide ((((((rM.set_other (p := ⟨w.heap.size + 2, 0, none⟩) (.inl (by have := unhide S0; dsimp only; omega)) (.bool q1)).set_other (p := ⟨w.heap.size + 2, 1, none⟩) (.inl (by have := unhide S0; dsimp only; omega)) (.slice aL M1.length dL)).set_other (p := ⟨w.heap.size + 2, 2, none⟩) (.inl (by have := unhide S0; dsimp only; omega)) (.int .i64 y1)).set_other (p := ⟨w.heap.size + 2, 3, none⟩) (.inl (by have := unhide S0; dsimp only; omega)) (.bool q2)).set_other (p := ⟨w.heap.size + 2, 4, none⟩) (.inl (by have := unhide S0; dsimp only; omega)) (.slice aM M2.length dM)).set_other (p := ⟨w.heap.size + 2, 5, none⟩) (.inl (by have := unhide S0; dsimp only; omega)) (.int .i64 y2))
  have K7 := hide (((((((unhide K).setNew (p := ⟨w.heap.size + 2, 0, none⟩) (by simp) (.bool q1)).setNew (p := ⟨w.heap.size + 2, 1, none⟩) (by simp) (.slice aL M1.length dL)).setNew (p := ⟨w.heap.size + 2, 2, none⟩) (by simp) (.int .i64 y1)).setNew (p := ⟨w.heap.size + 2, 3, none⟩) (by simp) (.bool q2)).setNew (p := ⟨w.heap.size + 2, 4, none⟩) (by simp) (.slice aM M2.length dM)).setNew (p := ⟨w.heap.size + 2, 5, none⟩) (by simp) (.int .i64 y2))
  clear r1 r2 rL rM K
  go_wp2_with fail
  have sS0 := unhide S0
  exact bodyPost_ret (v := .tuple #[.agg #[.bool q1, .slice aL M1.length dL, .int .i64 y1, .bool q2, .slice aM M2.length dM, .int .i64 y2], .bool CC]) (by simp [results, Tryz.results7, go_sem, R0, R1, R2, R3, R4, R5]) rfl (ivAns_shut (unhide HQ) ((unhide RL).wider (by omega) (Nat.le_refl _)) (unhide RM).tight (by omega) (by simp only [size_set]; omega) (unhide K7))

end Go.Proofs.YtadbdchjhglldaaGreatDoor

