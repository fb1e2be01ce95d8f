/-
  A product and a sum of floats, rounded once: FlFma of the model, three numbers; the law's walk.
-/
import Derived.Test.YtepehpkmejjhiaaGreatDoorFm5
import Derived.Test.YtepehpkmejjhiaaGreatDoorBD
import Derived.Deep.RegionHeld3
import Derived.Deep.DeepCutAuto
namespace Go.Proofs.YtepehpkmejjhiaaGreatDoor
open Go.RowKit
set_option linter.unusedVariables false
set_option maxRecDepth 8000
set_option linter.unusedSimpArgs false

theorem fl_k0 {k : Int} {n : Bool} {m e : Int} (h : flok k n m e = true) (hk : k ≤ 1) : fM k n m = 0 ↔ k = 0 := by
  rcases flok_ways h with ⟨rfl, a1, a2, a3, a4, -⟩ | ⟨rfl, rfl, rfl⟩ | ⟨rfl, -⟩ | ⟨rfl, -⟩
  ·have hne : fM 1 n m ≠ 0 := by unfold fM; cases n <;> simp <;> omega
   exact ⟨fun e => absurd e hne, fun e => by omega⟩
  ·exact ⟨fun _ => rfl, fun _ => fM_zero (by decide) n 0⟩
  ·omega
  ·omega

set_option maxHeartbeats 8000000 in
theorem fmaS_fin {k1 : Int} {n1 : Bool} {m1 e1 k2 : Int} {n2 : Bool} {m2 e2 k3 : Int} {n3 : Bool} {m3 e3 : Int} (h1 : flok k1 n1 m1 e1 = true) (h2 : flok k2 n2 m2 e2 = true) (h3 : flok k3 n3 m3 e3 = true) (j1 : k1 ≤ 1) (j2 : k2 ≤ 1) (j3 : k3 ≤ 1) (mode : Int) (hm0 : 0 ≤ mode) (hm4 : mode ≤ 4) (w : World) :
    Calls Tryz.prog 24 #[flv k1 n1 m1 e1, flv k2 n2 m2 e2, flv k3 n3 m3 e3, .int .i64 mode] w fun e' w' => e' = .returned (.tuple #[flq (fmaQ k1 n1 m1 e1 k2 n2 m2 e2 k3 n3 m3 e3 mode).1, .int .i64 (fmaQ k1 n1 m1 e1 k2 n2 m2 e2 k3 n3 m3 e3 mode).2]) ∧ Kept 0 0 w w' := by
  obtain ⟨Q, hQ⟩ : ∃ q, fmaQ k1 n1 m1 e1 k2 n2 m2 e2 k3 n3 m3 e3 mode = q := ⟨_, rfl⟩
  rw [hQ]
  obtain ⟨MD, hMD⟩ : ∃ y, (mode == 3) = y := ⟨_, rfl⟩
  obtain ⟨SG, hSG⟩ : ∃ y, (!(n1 == n2)) = y := ⟨_, rfl⟩
  obtain ⟨a1, b1, c1, d1, -, f1, -⟩ := fl_fin_ways h1 j1
  have kz1 := fl_k0 h1 j1
  have ab1 : (fM k1 n1 m1).natAbs < 2 ^ 64 := fM_abs _ _ c1 d1
  have ok1 := dok_fl (fM k1 n1 m1) e1 ab1 (by omega) (by omega)
  have md1 := fun w => dy5_fin h1 j1 w
  obtain ⟨a2, b2, c2, d2, -, f2, -⟩ := fl_fin_ways h2 j2
  have kz2 := fl_k0 h2 j2
  have ab2 : (fM k2 n2 m2).natAbs < 2 ^ 64 := fM_abs _ _ c2 d2
  have ok2 := dok_fl (fM k2 n2 m2) e2 ab2 (by omega) (by omega)
  have md2 := fun w => dy5_fin h2 j2 w
  obtain ⟨a3, b3, c3, d3, -, f3, -⟩ := fl_fin_ways h3 j3
  have kz3 := fl_k0 h3 j3
  have ab3 : (fM k3 n3 m3).natAbs < 2 ^ 64 := fM_abs _ _ c3 d3
  have ok3 := dok_fl (fM k3 n3 m3) e3 ab3 (by omega) (by omega)
  have md3 := fun w => dy5_fin h3 j3 w
  have hq : rndQ mode (fM k1 n1 m1 * fM k2 n2 m2 * 2 ^ (e1 + e2 - min (e1 + e2) e3).toNat + fM k3 n3 m3 * 2 ^ (e3 - min (e1 + e2) e3).toNat) (min (e1 + e2) e3) (if fM k1 n1 m1 * fM k2 n2 m2 = 0 ∧ fM k3 n3 m3 = 0 ∧ SG = n3 then SG else MD) = Q := by
   rw [← hQ, ← hMD, ← hSG]
   unfold fmaQ
   rw [if_neg (show ¬ (2 ≤ k1 ∨ 2 ≤ k2) by omega), if_neg (show ¬ 2 ≤ k3 by omega)]
  have kz : ∀ v : Bool, ((k1 = 0 ∨ k2 = 0) ∧ k3 = 0 ∧ SG = n3 → v = SG) → (¬ ((k1 = 0 ∨ k2 = 0) ∧ k3 = 0 ∧ SG = n3) → v = MD) → (if fM k1 n1 m1 * fM k2 n2 m2 = 0 ∧ fM k3 n3 m3 = 0 ∧ SG = n3 then SG else MD) = v := by
   intro v v1 v2
   have e : (fM k1 n1 m1 * fM k2 n2 m2 = 0 ∧ fM k3 n3 m3 = 0 ∧ SG = n3) = ((k1 = 0 ∨ k2 = 0) ∧ k3 = 0 ∧ SG = n3) := by rw [Int.mul_eq_zero, kz1, kz2, kz3]
   simp only [e]
   split
   ·rename_i g; exact (v1 g).symm
   ·rename_i g; exact (v2 g).symm
  have KZ := hide kz
  clear kz kz1 kz2 kz3 hQ
  obtain ⟨F1, hF1⟩ : ∃ y, fM k1 n1 m1 = y := ⟨_, rfl⟩
  rw [hF1] at ab1 ok1 f1
  simp only [hF1] at md1 hq KZ
  clear hF1
  obtain ⟨F2, hF2⟩ : ∃ y, fM k2 n2 m2 = y := ⟨_, rfl⟩
  rw [hF2] at ab2 ok2 f2
  simp only [hF2] at md2 hq KZ
  clear hF2
  obtain ⟨F3, hF3⟩ : ∃ y, fM k3 n3 m3 = y := ⟨_, rfl⟩
  rw [hF3] at ab3 ok3 f3
  simp only [hF3] at md3 hq KZ
  clear hF3
  have MD1 := hide md1
  have MD2 := hide md2
  have MD3 := hide md3
  have HQ := hide hq
  clear md1 md2 md3 hq
  obtain ⟨s1, hs1⟩ : ∃ y, wsg F1 = y := ⟨_, rfl⟩
  obtain ⟨z1, hz1⟩ : ∃ y, dlm F1 = y := ⟨_, rfl⟩
  obtain ⟨x1, hx1⟩ : ∃ y, dex F1 e1 = y := ⟨_, rfl⟩
  have xl1 := dex_lo (m := F1) (x := e1) (L := -1100) (by omega) (by omega)
  have xh1 := dex_hi (x := e1) ab1
  have wa1 := dlm_abs F1
  obtain ⟨s2, hs2⟩ : ∃ y, wsg F2 = y := ⟨_, rfl⟩
  obtain ⟨z2, hz2⟩ : ∃ y, dlm F2 = y := ⟨_, rfl⟩
  obtain ⟨x2, hx2⟩ : ∃ y, dex F2 e2 = y := ⟨_, rfl⟩
  have xl2 := dex_lo (m := F2) (x := e2) (L := -1100) (by omega) (by omega)
  have xh2 := dex_hi (x := e2) ab2
  have wa2 := dlm_abs F2
  obtain ⟨s3, hs3⟩ : ∃ y, wsg F3 = y := ⟨_, rfl⟩
  obtain ⟨z3, hz3⟩ : ∃ y, dlm F3 = y := ⟨_, rfl⟩
  obtain ⟨x3, hx3⟩ : ∃ y, dex F3 e3 = y := ⟨_, rfl⟩
  have xl3 := dex_lo (m := F3) (x := e3) (L := -1100) (by omega) (by omega)
  have xh3 := dex_hi (x := e3) ab3
  have wa3 := dlm_abs F3
  obtain ⟨M12, h12⟩ : ∃ y, wval (wsg F1) (dlm F1) * wval (wsg F2) (dlm F2) = y := ⟨_, rfl⟩
  have b12 : M12.natAbs < 2 ^ 128 := by
   rw [← h12, Int.natAbs_mul, wa1, wa2]
   calc F1.natAbs / 2 ^ tz F1.natAbs * (F2.natAbs / 2 ^ tz F2.natAbs) ≤ F1.natAbs * F2.natAbs := Nat.mul_le_mul (Nat.div_le_self _ _) (Nat.div_le_self _ _)
    _ < 2 ^ 64 * 2 ^ 64 := Nat.mul_lt_mul'' ab1 ab2
    _ = 2 ^ 128 := by decide
  have okp := dok_w M12 (dex F1 e1 + dex F2 e2) b12 (by omega) (by omega)
  obtain ⟨xp, hxp⟩ : ∃ y, dex M12 (dex F1 e1 + dex F2 e2) = y := ⟨_, rfl⟩
  obtain ⟨M, hM⟩ : ∃ y, wval (wsg M12) (dlm M12) * 2 ^ (xp - min xp (dex F3 e3)).toNat + wval (wsg F3) (dlm F3) * 2 ^ (dex F3 e3 - min xp (dex F3 e3)).toNat = y := ⟨_, rfl⟩
  obtain ⟨X, hX⟩ : ∃ y, min xp (dex F3 e3) = y := ⟨_, rfl⟩
  have JJ := hide (fun Z => (round_fin mode Z M X).trans (fma_val mode Z F1 F2 F3 e1 e2 e3 M12 _ xp _ M X (by omega) (by omega) (by omega) h12 rfl hxp rfl hM hX))
  rw [hxp] at okp
  rw [hx1, hx2] at hxp
  rw [hx3] at hM hX
  rw [hs3, hz3] at hM
  rw [hs1, hz1, hs2, hz2] at h12
  rw [hs1, hz1, hx1] at ok1
  rw [hs2, hz2, hx2] at ok2
  rw [hs3, hz3, hx3] at ok3
  obtain ⟨sp, hsp⟩ : ∃ y, wsg M12 = y := ⟨_, rfl⟩
  obtain ⟨zp, hzp⟩ : ∃ y, dlm M12 = y := ⟨_, rfl⟩
  rw [hsp, hzp] at okp hM
  have gp := dok_parts okp
  have g3 := dok_parts ok3
  obtain ⟨AA, hAA⟩ : ∃ A : Nat, A = 7600 := ⟨_, rfl⟩
  have hMb : M.natAbs < 2 ^ (AA + 1) := by
   have q1 := wok_int gp.1
   have q2 := wok_int g3.1
   rw [← hM]
   exact add_lt (al_lt q1.2.2.2.1 q1.2.2.1 _ (by omega) hAA) (al_lt q2.2.2.2.1 q2.2.2.1 _ (by omega) hAA)
  have hdl := dex_lo (m := M) (x := X) (L := -20000) (by omega) (by omega)
  have hdh := dex_hi (x := X) hMb
  have hlM : (dlm M).length ≤ 500 := Nat.le_trans (dlm_len (M := M) rfl) (wlm_len hMb (by omega))
  have hX0 : -3000 ≤ X ∧ X ≤ 3000 := by omega
  replace hdl : -20000 ≤ dex M X ∧ dex M X ≤ 20000 := ⟨hdl, by omega⟩
  obtain ⟨A, hA⟩ : ∃ y, flA mode (wsg M) (val (dlm M)).toNat (dex M X) = y := ⟨_, rfl⟩
  obtain ⟨GG, hGG⟩ : ∃ y, flG mode (wsg M) (val (dlm M)).toNat (dex M X) = y := ⟨_, rfl⟩
  replace JJ := unhide JJ
  simp only [hA, hGG] at JJ
  replace JJ := hide JJ
  replace MD1 := unhide MD1
  replace MD2 := unhide MD2
  replace MD3 := unhide MD3
  simp only [hs1, hz1, hx1] at MD1
  simp only [hs2, hz2, hx2] at MD2
  simp only [hs3, hz3, hx3] at MD3
  replace MD1 := hide MD1
  replace MD2 := hide MD2
  replace MD3 := hide MD3
  have HA := hide hA
  have HGG := hide hGG
  have HM := hide hM
  have HX := hide hX
  have HXP := hide hxp
  have H12 := hide h12
  have HSP := hide hsp
  have HZP := hide hzp
  clear hs1 hs2 hs3 hz1 hz2 hz3 hx1 hx2 hx3 hA hGG hM hX hxp h12 hsp hzp b12 gp g3 hAA hMb wa1 wa2 wa3 xl1 xl2 xl3 xh1 xh2 xh3 ab1 ab2 ab3 hdh hX0 f1 f2 f3
  have lk3 : k3 < 2 := by omega
  have nk3 : ¬ 2 ≤ k3 := by omega
  have b13 : (k1 == 3) = false := by simp; omega
  have b12 : (k1 == 2) = false := by simp; omega
  have b23 : (k2 == 3) = false := by simp; omega
  have b22 : (k2 == 2) = false := by simp; omega
  have mo := fun w => l5ok_spec k1 n1 m1 e1 k2 n2 m2 e2 mode w
  have hcc : okM k1 n1 m1 e1 k2 n2 m2 e2 mode = true := by unfold okM modeB; rw [h1, h2, decide_eq_true hm0, decide_eq_true hm4]; rfl
  simp only [hcc] at mo
  have mc := fun w => flok_spec_k h3 w
  replace mo := hide mo
  replace mc := hide mc
  clear hcc
  obtain ⟨Wn, hn0⟩ : ∃ wz, wz = ((((w.alloc (.cells #[.int .i64 k1, .bool n1, .int .i64 m1, .int .i64 e1] 24)).alloc (.cells #[.int .i64 k2, .bool n2, .int .i64 m2, .int .i64 e2] 24)).alloc (.cells #[.int .i64 k3, .bool n3, .int .i64 m3, .int .i64 e3] 24)).alloc (.cells #[.int .i64 0, .bool false, .int .i64 0, .int .i64 0] 24)) := ⟨_, rfl⟩
  have k0 : Kept 0 0 w Wn := by rw [hn0]; exact (((((Kept.refl 0 0 w).alloc _).alloc _).alloc _).alloc _)
  have p0 : Wn.cell? ⟨w.heap.size, 0, none⟩ = some (.int .i64 k1) := by rw [hn0]; exact old_cell _ (old_cell _ (old_cell _ (new_cell2 _ _ _ _ _ _ (by simp) rfl)))
  have p1 : Wn.cell? ⟨w.heap.size, 1, none⟩ = some (.bool n1) := by rw [hn0]; exact old_cell _ (old_cell _ (old_cell _ (new_cell2 _ _ _ _ _ _ (by simp) rfl)))
  have p2 : Wn.cell? ⟨w.heap.size, 2, none⟩ = some (.int .i64 m1) := by rw [hn0]; exact old_cell _ (old_cell _ (old_cell _ (new_cell2 _ _ _ _ _ _ (by simp) rfl)))
  have p3 : Wn.cell? ⟨w.heap.size, 3, none⟩ = some (.int .i64 e1) := by rw [hn0]; exact old_cell _ (old_cell _ (old_cell _ (new_cell2 _ _ _ _ _ _ (by simp) rfl)))
  have t0 : Wn.cell? ⟨w.heap.size + 1, 0, none⟩ = some (.int .i64 k2) := by rw [hn0]; exact old_cell _ (old_cell _ (new_cell2 _ _ _ _ _ _ (by simp) rfl))
  have t1 : Wn.cell? ⟨w.heap.size + 1, 1, none⟩ = some (.bool n2) := by rw [hn0]; exact old_cell _ (old_cell _ (new_cell2 _ _ _ _ _ _ (by simp) rfl))
  have t2 : Wn.cell? ⟨w.heap.size + 1, 2, none⟩ = some (.int .i64 m2) := by rw [hn0]; exact old_cell _ (old_cell _ (new_cell2 _ _ _ _ _ _ (by simp) rfl))
  have t3 : Wn.cell? ⟨w.heap.size + 1, 3, none⟩ = some (.int .i64 e2) := by rw [hn0]; exact old_cell _ (old_cell _ (new_cell2 _ _ _ _ _ _ (by simp) rfl))
  have u0 : Wn.cell? ⟨w.heap.size + 2, 0, none⟩ = some (.int .i64 k3) := by rw [hn0]; exact old_cell _ (new_cell2 _ _ _ _ _ _ (by simp) rfl)
  have u1 : Wn.cell? ⟨w.heap.size + 2, 1, none⟩ = some (.bool n3) := by rw [hn0]; exact old_cell _ (new_cell2 _ _ _ _ _ _ (by simp) rfl)
  have u2 : Wn.cell? ⟨w.heap.size + 2, 2, none⟩ = some (.int .i64 m3) := by rw [hn0]; exact old_cell _ (new_cell2 _ _ _ _ _ _ (by simp) rfl)
  have u3 : Wn.cell? ⟨w.heap.size + 2, 3, none⟩ = some (.int .i64 e3) := by rw [hn0]; exact old_cell _ (new_cell2 _ _ _ _ _ _ (by simp) rfl)
  obtain ⟨q0, q1, q2, q3, qf0, qf1, qf2, qf3⟩ := new4 hn0 (n := w.heap.size + 3) (by simp)
  have s0 : Wn.heap.size = w.heap.size + 4 := by rw [hn0]; exact by simp
  subst hn0
  have K := hide (k0)
  clear k0
  have S0 := hide s0
  clear s0
  go_enter Tryz.func24, Tryz.ntmps24
  go_wp2_with fail
  generalize ((((w.alloc (.cells #[.int .i64 k1, .bool n1, .int .i64 m1, .int .i64 e1] 24)).alloc (.cells #[.int .i64 k2, .bool n2, .int .i64 m2, .int .i64 e2] 24)).alloc (.cells #[.int .i64 k3, .bool n3, .int .i64 m3, .int .i64 e3] 24)).alloc (.cells #[.int .i64 0, .bool false, .int .i64 0, .int .i64 0] 24)) = W at *
  refine (unhide mo _).mono ?_
  rintro e w1 ⟨rfl, k1⟩
  revert qf0 qf1 qf2 qf3; refine k1.l4 q0 q1 q2 q3 ?_; intro qf0 qf1 qf2 qf3
  revert p0 p1 p2 p3 t0 t1 t2 t3 u0 u1 u2 u3; refine k1.m12 ?_; intro p0 p1 p2 p3 t0 t1 t2 t3 u0 u1 u2 u3
  revert q0 q1 q2 q3; refine k1.m4 ?_; intro q0 q1 q2 q3
  replace K := hide ((unhide K).trans k1)
  have z2 := k1.size
  clear k1
  go_wp2_with fail
  refine (unhide mc _).mono ?_
  rintro e w3 ⟨rfl, k3⟩
  revert qf0 qf1 qf2 qf3; refine k3.l4 q0 q1 q2 q3 ?_; intro qf0 qf1 qf2 qf3
  revert p0 p1 p2 p3 t0 t1 t2 t3 u0 u1 u2 u3; refine k3.m12 ?_; intro p0 p1 p2 p3 t0 t1 t2 t3 u0 u1 u2 u3
  revert q0 q1 q2 q3; refine k3.m4 ?_; intro q0 q1 q2 q3
  replace K := hide ((unhide K).trans k3)
  have z4 := k3.size
  clear k3
  clear mo mc
  go_wp2_with fail
  rename_i g0 g1 g2 g3 Kx ax
  have hz := (unhide KZ) SG (fun _ => rfl) (fun e => absurd ⟨.inl g1, g2, eq_of_beq g3⟩ e)
  clear g1 g2 g3 KZ
  have hq := unhide HQ
  rw [hz] at hq
  have jj := (unhide JJ) SG
  rw [hq] at jj
  obtain ⟨SN, hSN⟩ : ∃ y, (if (val (dlm M)).toNat = 0 then SG else wsg M) = y := ⟨_, rfl⟩
  rw [hSN] at jj
  have FQ : Hid (Q = ((A.1, SN, A.2.1, A.2.2), GG)) := jj.symm
  have HSN := hide hSN
  clear hz hq jj hSN JJ HQ hMD hSG
  generalize SG = ZV at *
  rotate_left
  rename_i g0 g1 g2 g3 Kx ax
  have hz := (unhide KZ) MD (fun e => by rw [e.2.2] at g3; simp at g3) (fun _ => rfl)
  clear g1 g2 g3 KZ
  have hq := unhide HQ
  rw [hz] at hq
  have jj := (unhide JJ) MD
  rw [hq] at jj
  obtain ⟨SN, hSN⟩ : ∃ y, (if (val (dlm M)).toNat = 0 then MD else wsg M) = y := ⟨_, rfl⟩
  rw [hSN] at jj
  have FQ : Hid (Q = ((A.1, SN, A.2.1, A.2.2), GG)) := jj.symm
  have HSN := hide hSN
  clear hz hq jj hSN JJ HQ hMD hSG
  generalize MD = ZV at *
  rotate_left
  rename_i g0 g1 g2 Kx ax
  have hz := (unhide KZ) MD (fun e => absurd e.2.1 g2) (fun _ => rfl)
  clear g1 g2 KZ
  have hq := unhide HQ
  rw [hz] at hq
  have jj := (unhide JJ) MD
  rw [hq] at jj
  obtain ⟨SN, hSN⟩ : ∃ y, (if (val (dlm M)).toNat = 0 then MD else wsg M) = y := ⟨_, rfl⟩
  rw [hSN] at jj
  have FQ : Hid (Q = ((A.1, SN, A.2.1, A.2.2), GG)) := jj.symm
  have HSN := hide hSN
  clear hz hq jj hSN JJ HQ hMD hSG
  generalize MD = ZV at *
  rotate_left
  rename_i g0 g1 g2 g3 g4 Kx ax
  have hz := (unhide KZ) SG (fun _ => rfl) (fun e => absurd ⟨.inr g2, g3, eq_of_beq g4⟩ e)
  clear g1 g2 g3 g4 KZ
  have hq := unhide HQ
  rw [hz] at hq
  have jj := (unhide JJ) SG
  rw [hq] at jj
  obtain ⟨SN, hSN⟩ : ∃ y, (if (val (dlm M)).toNat = 0 then SG else wsg M) = y := ⟨_, rfl⟩
  rw [hSN] at jj
  have FQ : Hid (Q = ((A.1, SN, A.2.1, A.2.2), GG)) := jj.symm
  have HSN := hide hSN
  clear hz hq jj hSN JJ HQ hMD hSG
  generalize SG = ZV at *
  rotate_left
  rename_i g0 g1 g2 g3 g4 Kx ax
  have hz := (unhide KZ) MD (fun e => by rw [e.2.2] at g4; simp at g4) (fun _ => rfl)
  clear g1 g2 g3 g4 KZ
  have hq := unhide HQ
  rw [hz] at hq
  have jj := (unhide JJ) MD
  rw [hq] at jj
  obtain ⟨SN, hSN⟩ : ∃ y, (if (val (dlm M)).toNat = 0 then MD else wsg M) = y := ⟨_, rfl⟩
  rw [hSN] at jj
  have FQ : Hid (Q = ((A.1, SN, A.2.1, A.2.2), GG)) := jj.symm
  have HSN := hide hSN
  clear hz hq jj hSN JJ HQ hMD hSG
  generalize MD = ZV at *
  rotate_left
  rename_i g0 g1 g2 g3 Kx ax
  have hz := (unhide KZ) MD (fun e => absurd e.2.1 g3) (fun _ => rfl)
  clear g1 g2 g3 KZ
  have hq := unhide HQ
  rw [hz] at hq
  have jj := (unhide JJ) MD
  rw [hq] at jj
  obtain ⟨SN, hSN⟩ : ∃ y, (if (val (dlm M)).toNat = 0 then MD else wsg M) = y := ⟨_, rfl⟩
  rw [hSN] at jj
  have FQ : Hid (Q = ((A.1, SN, A.2.1, A.2.2), GG)) := jj.symm
  have HSN := hide hSN
  clear hz hq jj hSN JJ HQ hMD hSG
  generalize MD = ZV at *
  rotate_left
  rename_i g0 g1 g2 Kx ax
  have hz := (unhide KZ) MD (fun e => absurd e.1 (by omega)) (fun _ => rfl)
  clear g1 g2 KZ
  have hq := unhide HQ
  rw [hz] at hq
  have jj := (unhide JJ) MD
  rw [hq] at jj
  obtain ⟨SN, hSN⟩ : ∃ y, (if (val (dlm M)).toNat = 0 then MD else wsg M) = y := ⟨_, rfl⟩
  rw [hSN] at jj
  have FQ : Hid (Q = ((A.1, SN, A.2.1, A.2.2), GG)) := jj.symm
  have HSN := hide hSN
  clear hz hq jj hSN JJ HQ hMD hSG
  generalize MD = ZV at *
  rotate_left
  all_goals
   have kd := (Kept.refl 0 0 w3).drew
   revert qf0 qf1 qf2 qf3; refine kd.l4 q0 q1 q2 q3 ?_; intro qf0 qf1 qf2 qf3
   revert p0 p1 p2 p3 t0 t1 t2 t3 u0 u1 u2 u3; refine kd.m12 ?_; intro p0 p1 p2 p3 t0 t1 t2 t3 u0 u1 u2 u3
   revert q0 q1 q2 q3; refine kd.m4 ?_; intro q0 q1 q2 q3
   replace K := hide ((unhide K).trans kd)
   have z5 := kd.size
   clear kd
   refine wp_region_held_drew (S := (fun w' => w'.cell? ⟨w.heap.size, 0, none⟩ = some (.int .i64 k1) ∧ w'.cell? ⟨w.heap.size, 1, none⟩ = some (.bool n1) ∧ w'.cell? ⟨w.heap.size, 2, none⟩ = some (.int .i64 m1) ∧ w'.cell? ⟨w.heap.size, 3, none⟩ = some (.int .i64 e1) ∧ w'.cell? ⟨w.heap.size + 1, 0, none⟩ = some (.int .i64 k2) ∧ w'.cell? ⟨w.heap.size + 1, 1, none⟩ = some (.bool n2) ∧ w'.cell? ⟨w.heap.size + 1, 2, none⟩ = some (.int .i64 m2) ∧ w'.cell? ⟨w.heap.size + 1, 3, none⟩ = some (.int .i64 e2) ∧ w'.cell? ⟨w.heap.size + 2, 0, none⟩ = some (.int .i64 k3) ∧ w'.cell? ⟨w.heap.size + 2, 1, none⟩ = some (.bool n3) ∧ w'.cell? ⟨w.heap.size + 2, 2, none⟩ = some (.int .i64 m3) ∧ w'.cell? ⟨w.heap.size + 2, 3, none⟩ = some (.int .i64 e3))) (by kernel_rfl) ?_ (fun hH => ?_)
   ·exact ⟨p0, p1, p2, p3, t0, t1, t2, t3, u0, u1, u2, u3⟩
   refine wT (i := 0) (v := .agg #[.int .i64 k1, .bool n1, .int .i64 m1, .int .i64 e1]) rfl (Or.inl ⟨by rfl, ?_⟩) hH ?_
   ·intro wq hSw
    try dsimp only at hSw
    go_simp
   try simp only [Act.put, zq1, zq2, zq3, zq4, zq5, zq6]
   refine wT (i := 2) (v := .agg #[.int .i64 k2, .bool n2, .int .i64 m2, .int .i64 e2]) rfl (Or.inl ⟨by rfl, ?_⟩) hH ?_
   ·intro wq hSw
    try dsimp only at hSw
    go_simp
   try simp only [Act.put, zq1, zq2, zq3, zq4, zq5, zq6]
   refine wT (i := 5) (v := .agg #[.int .i64 k3, .bool n3, .int .i64 m3, .int .i64 e3]) rfl (Or.inl ⟨by rfl, ?_⟩) hH ?_
   ·intro wq hSw
    try dsimp only at hSw
    go_simp
   try simp only [Act.put, zq1, zq2, zq3, zq4, zq5, zq6]
   refine wT (i := 8) (v := .int .i64 mode) rfl (Or.inl ⟨by rfl, ?_⟩) hH ?_
   ·intro wq hSw
    try dsimp only at hSw
    go_simp
   try simp only [Act.put, zq1, zq2, zq3, zq4, zq5, zq6]
   refine wT (i := 9) (v := .bool ZV) rfl (Or.inl ⟨by rfl, ?_⟩) hH ?_
   ·intro wq hSw
    try dsimp only at hSw
    go_simp
   try simp only [Act.put, zq1, zq2, zq3, zq4, zq5, zq6]
   refine wR 1 (by kernel_rfl) rfl (fun KK hK => ?_)
   simp only [zq1, zq2, zq3]
   rw [if_pos (by rfl)]
   refine wps1 65 (.tmp 103) _ rfl in_l5dy_n (.agg #[.int .i64 k1, .bool n1, .int .i64 m1, .int .i64 e1]) rfl (unhide MD1 _) ?_
   rintro e w6 ⟨v1, rfl, r1, k6⟩
   refine ⟨_, rfl, ?_⟩
   revert qf0 qf1 qf2 qf3; refine k6.l4 q0 q1 q2 q3 ?_; intro qf0 qf1 qf2 qf3
   revert p0 p1 p2 p3 t0 t1 t2 t3 u0 u1 u2 u3; refine k6.m12 ?_; intro p0 p1 p2 p3 t0 t1 t2 t3 u0 u1 u2 u3
   revert q0 q1 q2 q3; refine k6.m4 ?_; intro q0 q1 q2 q3
   replace K := hide ((unhide K).trans k6)
   have z7 := k6.size
   clear k6
   clear hH
   refine hK.out _ _ ?_ (fun hH => ?_)
   ·exact ⟨p0, p1, p2, p3, t0, t1, t2, t3, u0, u1, u2, u3⟩
   clear hK KK
   try simp only [Act.put, zq1, zq2, zq3, zq4, zq5, zq6]
   refine wR 3 (by kernel_rfl) rfl (fun KK hK => ?_)
   simp only [zq1, zq2, zq3]
   rw [if_pos (by rfl)]
   refine wps1 65 (.tmp 105) _ rfl in_l5dy_n (.agg #[.int .i64 k2, .bool n2, .int .i64 m2, .int .i64 e2]) rfl (unhide MD2 _) ?_
   rintro e w8 ⟨v2, rfl, r2, k8⟩
   refine ⟨_, rfl, ?_⟩
   replace r1 := r1.kp k8
   revert qf0 qf1 qf2 qf3; refine k8.l4 q0 q1 q2 q3 ?_; intro qf0 qf1 qf2 qf3
   revert p0 p1 p2 p3 t0 t1 t2 t3 u0 u1 u2 u3; refine k8.m12 ?_; intro p0 p1 p2 p3 t0 t1 t2 t3 u0 u1 u2 u3
   revert q0 q1 q2 q3; refine k8.m4 ?_; intro q0 q1 q2 q3
   replace K := hide ((unhide K).trans k8)
   have z9 := k8.size
   clear k8
   clear hH
   refine hK.out _ _ ?_ (fun hH => ?_)
   ·exact ⟨p0, p1, p2, p3, t0, t1, t2, t3, u0, u1, u2, u3⟩
   clear hK KK
   try simp only [Act.put, zq1, zq2, zq3, zq4, zq5, zq6]
   refine wR 4 (by kernel_rfl) rfl (fun KK hK => ?_)
   simp only [zq1, zq2, zq3]
   rw [if_pos (by rfl)]
   refine wps2 64 (.tmp 104) (.tmp 106) _ rfl in_l4mul_n (.agg #[.bool s1, v1, .int .i64 x1]) (.agg #[.bool s2, v2, .int .i64 x2]) rfl rfl (mul4_spec s1 s2 x1 x2 _ r1 r2 ok1 ok2) ?_
   rintro e w10 ⟨v4, rfl, r4, k10⟩
   refine ⟨_, rfl, ?_⟩
   replace r1 := r1.kp k10
   replace r2 := r2.kp k10
   revert qf0 qf1 qf2 qf3; refine k10.l4 q0 q1 q2 q3 ?_; intro qf0 qf1 qf2 qf3
   revert p0 p1 p2 p3 t0 t1 t2 t3 u0 u1 u2 u3; refine k10.m12 ?_; intro p0 p1 p2 p3 t0 t1 t2 t3 u0 u1 u2 u3
   revert q0 q1 q2 q3; refine k10.m4 ?_; intro q0 q1 q2 q3
   replace K := hide ((unhide K).trans k10)
   have z11 := k10.size
   clear k10
   clear hH
   refine hK.out _ _ ?_ (fun hH => ?_)
   ·exact ⟨p0, p1, p2, p3, t0, t1, t2, t3, u0, u1, u2, u3⟩
   clear hK KK
   try simp only [Act.put, zq1, zq2, zq3, zq4, zq5, zq6]
   rw [unhide H12, unhide HZP] at r4
   rw [unhide H12, unhide HXP, unhide HSP]
   refine wR 6 (by kernel_rfl) rfl (fun KK hK => ?_)
   simp only [zq1, zq2, zq3]
   rw [if_pos (by rfl)]
   refine wps1 65 (.tmp 108) _ rfl in_l5dy_n (.agg #[.int .i64 k3, .bool n3, .int .i64 m3, .int .i64 e3]) rfl (unhide MD3 _) ?_
   rintro e w12 ⟨v3, rfl, r3, k12⟩
   refine ⟨_, rfl, ?_⟩
   replace r1 := r1.kp k12
   replace r2 := r2.kp k12
   replace r4 := r4.kp k12
   revert qf0 qf1 qf2 qf3; refine k12.l4 q0 q1 q2 q3 ?_; intro qf0 qf1 qf2 qf3
   revert p0 p1 p2 p3 t0 t1 t2 t3 u0 u1 u2 u3; refine k12.m12 ?_; intro p0 p1 p2 p3 t0 t1 t2 t3 u0 u1 u2 u3
   revert q0 q1 q2 q3; refine k12.m4 ?_; intro q0 q1 q2 q3
   replace K := hide ((unhide K).trans k12)
   have z13 := k12.size
   clear k12
   clear hH
   refine hK.out _ _ ?_ (fun hH => ?_)
   ·exact ⟨p0, p1, p2, p3, t0, t1, t2, t3, u0, u1, u2, u3⟩
   clear hK KK
   try simp only [Act.put, zq1, zq2, zq3, zq4, zq5, zq6]
   refine wR 7 (by kernel_rfl) rfl (fun KK hK => ?_)
   simp only [zq1, zq2, zq3]
   rw [if_pos (by rfl)]
   refine wps2 63 (.tmp 107) (.tmp 109) _ rfl in_l4add_n (.agg #[.bool sp, v4, .int .i64 xp]) (.agg #[.bool s3, v3, .int .i64 x3]) rfl rfl (add4_spec sp s3 xp x3 _ r4 r3 okp ok3) ?_
   rintro e w14 ⟨v5, rfl, r5, k14⟩
   refine ⟨_, rfl, ?_⟩
   replace r1 := r1.kp k14
   replace r2 := r2.kp k14
   replace r4 := r4.kp k14
   replace r3 := r3.kp k14
   revert qf0 qf1 qf2 qf3; refine k14.l4 q0 q1 q2 q3 ?_; intro qf0 qf1 qf2 qf3
   revert p0 p1 p2 p3 t0 t1 t2 t3 u0 u1 u2 u3; refine k14.m12 ?_; intro p0 p1 p2 p3 t0 t1 t2 t3 u0 u1 u2 u3
   revert q0 q1 q2 q3; refine k14.m4 ?_; intro q0 q1 q2 q3
   replace K := hide ((unhide K).trans k14)
   have z15 := k14.size
   clear k14
   clear hH
   refine hK.out _ _ ?_ (fun hH => ?_)
   ·exact ⟨p0, p1, p2, p3, t0, t1, t2, t3, u0, u1, u2, u3⟩
   clear hK KK
   try simp only [Act.put, zq1, zq2, zq3, zq4, zq5, zq6]
   rw [unhide HM] at r5
   rw [unhide HM, unhide HX]
   refine wR 10 (by kernel_rfl) rfl (fun KK hK => ?_)
   simp only [zq1, zq2, zq3]
   rw [if_pos (by rfl)]
   refine wps3 62 (.tmp 110) (.tmp 111) (.tmp 112) _ rfl in_l5round_n (.agg #[.bool (wsg M), v5, .int .i64 (dex M X)]) (.int .i64 mode) (.bool ZV) rfl rfl rfl (l5round_spec (wsg M) (dex M X) (by omega) (by omega) _ r5 (wn_dlm M) (odd_dlm M) (dex_nil M X) (by omega) mode hm0 hm4 ZV) ?_
   rintro e w16 ⟨rfl, k16⟩
   refine ⟨_, rfl, ?_⟩
   replace r1 := r1.kp k16
   replace r2 := r2.kp k16
   replace r4 := r4.kp k16
   replace r3 := r3.kp k16
   replace r5 := r5.kp k16
   revert qf0 qf1 qf2 qf3; refine k16.l4 q0 q1 q2 q3 ?_; intro qf0 qf1 qf2 qf3
   revert p0 p1 p2 p3 t0 t1 t2 t3 u0 u1 u2 u3; refine k16.m12 ?_; intro p0 p1 p2 p3 t0 t1 t2 t3 u0 u1 u2 u3
   revert q0 q1 q2 q3; refine k16.m4 ?_; intro q0 q1 q2 q3
   replace K := hide ((unhide K).trans k16)
   have z17 := k16.size
   clear k16
   clear hH
   refine hK.out _ _ ?_ (fun hH => ?_)
   ·exact ⟨p0, p1, p2, p3, t0, t1, t2, t3, u0, u1, u2, u3⟩
   clear hK KK
   try simp only [Act.put, zq1, zq2, zq3, zq4, zq5, zq6]
   rw [unhide HA, unhide HGG, unhide HSN]
   refine wT (i := 11) (v := .agg #[.int .i64 A.1, .bool SN, .int .i64 A.2.1, .int .i64 A.2.2]) rfl (Or.inl ⟨by rfl, ?_⟩) hH ?_
   ·intro wq hSw
    try dsimp only at hSw
    go_simp
   try simp only [Act.put, zq1, zq2, zq3, zq4, zq5, zq6]
   refine wT (i := 12) (v := .int .i64 GG) rfl (Or.inl ⟨by rfl, ?_⟩) hH ?_
   ·intro wq hSw
    try dsimp only at hSw
    go_simp
   try simp only [Act.put, zq1, zq2, zq3, zq4, zq5, zq6]
   refine wR 13 (by kernel_rfl) rfl (fun KK hK => ?_)
   simp only [zq1, zq2, zq3]
   rw [if_pos (by rfl)]
   go_simp
   clear hH
   refine hK.out _ _ ?_ (fun hH => ?_)
   ·have sq := unhide S0; exact ⟨(cell_aside _ (by dsimp only; omega) (cw3 (by dsimp only; omega) p0)), (cell_aside _ (by dsimp only; omega) (cw3 (by dsimp only; omega) p1)), (cell_aside _ (by dsimp only; omega) (cw3 (by dsimp only; omega) p2)), (cell_aside _ (by dsimp only; omega) (cw3 (by dsimp only; omega) p3)), (cell_aside _ (by dsimp only; omega) (cw3 (by dsimp only; omega) t0)), (cell_aside _ (by dsimp only; omega) (cw3 (by dsimp only; omega) t1)), (cell_aside _ (by dsimp only; omega) (cw3 (by dsimp only; omega) t2)), (cell_aside _ (by dsimp only; omega) (cw3 (by dsimp only; omega) t3)), (cell_aside _ (by dsimp only; omega) (cw3 (by dsimp only; omega) u0)), (cell_aside _ (by dsimp only; omega) (cw3 (by dsimp only; omega) u1)), (cell_aside _ (by dsimp only; omega) (cw3 (by dsimp only; omega) u2)), (cell_aside _ (by dsimp only; omega) (cw3 (by dsimp only; omega) u3))⟩
   clear hK KK
   try simp only [Act.put, zq1, zq2, zq3, zq4, zq5, zq6]
   refine wT (i := 14) (v := .int .i64 GG) rfl (Or.inl ⟨by rfl, ?_⟩) hH ?_
   ·intro wq hSw
    try dsimp only at hSw
    go_simp
   try simp only [Act.put, zq1, zq2, zq3, zq4, zq5, zq6]
   refine wpAnyH_done (by kernel_rfl) ?_ _
   clear hH
   have KF := hide (((((unhide K).setNew (p := ⟨w.heap.size + 3, 0, none⟩) (by simp) (.int .i64 A.1)).setNew (p := ⟨w.heap.size + 3, 1, none⟩) (by simp) (.bool SN)).setNew (p := ⟨w.heap.size + 3, 2, none⟩) (by simp) (.int .i64 A.2.1)).setNew (p := ⟨w.heap.size + 3, 3, none⟩) (by simp) (.int .i64 A.2.2))
   clear r1 r2 r4 r3 r5 K
   try go_wp2_with fail
   exact bodyPost_ret (v := .tuple #[.agg #[.int .i64 A.1, .bool SN, .int .i64 A.2.1, .int .i64 A.2.2], .int .i64 GG]) (by simp [results, Tryz.results24, go_sem, q0, q1, q2, q3]) rfl ⟨by rw [unhide FQ], unhide KF⟩

end Go.Proofs.YtepehpkmejjhiaaGreatDoor

