/-
  A product and a sum of floats, rounded once: the program's multiplyAndAdd, three numbers.
-/
import Derived.Test.YtepehpkmejjhiaaGreatDoorFm0
import Derived.Deep.RegionHeld3
import Derived.Deep.DeepCutAuto
namespace Go.Proofs.YtepehpkmejjhiaaGreatDoor
open Go.RowKit
set_option linter.unusedVariables false
set_option maxRecDepth 8000
set_option linter.unusedSimpArgs false

set_option maxHeartbeats 2000000 in
theorem maI_fin {k1 : Int} {n1 : Bool} {m1 e1 k2 : Int} {n2 : Bool} {m2 e2 k3 : Int} {n3 : Bool} {m3 e3 : Int} (h1 : flok k1 n1 m1 e1 = true) (h2 : flok k2 n2 m2 e2 = true) (h3 : flok k3 n3 m3 e3 = true) (j1 : k1 ≤ 1) (j2 : k2 ≤ 1) (j3 : k3 ≤ 1) (mode : Int) (hm0 : 0 ≤ mode) (hm4 : mode ≤ 4) (w : World) (T : TabB w) :
    Calls Tryz.prog 37 #[ivl k1 n1 m1 e1, ivl k2 n2 m2 e2, ivl k3 n3 m3 e3, .int .i64 mode] w fun e' w' => e' = .returned (.tuple #[flq (fmaQ k1 n1 m1 e1 k2 n2 m2 e2 k3 n3 m3 e3 mode).1, .int .i64 (fmaQ k1 n1 m1 e1 k2 n2 m2 e2 k3 n3 m3 e3 mode).2]) ∧ Kept 0 0 w w' := by
  obtain ⟨Q, hQ⟩ : ∃ q, fmaQ k1 n1 m1 e1 k2 n2 m2 e2 k3 n3 m3 e3 mode = q := ⟨_, rfl⟩
  rw [hQ]
  obtain ⟨a1, b1, c1, d1, f1, -, -⟩ := fl_fin_ways h1 j1
  obtain ⟨a2, b2, c2, d2, f2, -, -⟩ := fl_fin_ways h2 j2
  obtain ⟨a3, b3, c3, d3, f3, -, -⟩ := fl_fin_ways h3 j3
  obtain ⟨F1, hF1⟩ : ∃ y, fM k1 n1 m1 = y := ⟨_, rfl⟩
  obtain ⟨F2, hF2⟩ : ∃ y, fM k2 n2 m2 = y := ⟨_, rfl⟩
  obtain ⟨F3, hF3⟩ : ∃ y, fM k3 n3 m3 = y := ⟨_, rfl⟩
  have hq : rndQ mode (F1 * F2 * 2 ^ (e1 + e2 - min (e1 + e2) e3).toNat + F3 * 2 ^ (e3 - min (e1 + e2) e3).toNat) (min (e1 + e2) e3) (if F1 * F2 = 0 ∧ F3 = 0 ∧ (!(n1 == n2)) = n3 then (!(n1 == n2)) else (mode == 3)) = Q := by
   rw [← hQ, ← hF1, ← hF2, ← hF3]
   unfold fmaQ
   rw [if_neg (show ¬ (2 ≤ k1 ∨ 2 ≤ k2) by omega), if_neg (show ¬ 2 ≤ k3 by omega)]
  rw [hF1] at f1
  rw [hF2] at f2
  rw [hF3] at f3
  clear hQ hF1 hF2 hF3
  have HQ := hide hq
  clear hq
  have ci1 := fun w => isInf_no h1 (by omega) w
  have cn1 := fun w => isNan_no h1 (by omega) w
  have vo1 := fun w => valueOf_fin h1 j1 w
  obtain ⟨I1, hI1⟩ : ∃ y, ivl k1 n1 m1 e1 = y := ⟨_, rfl⟩
  simp only [hI1] at ci1 cn1 vo1 ⊢
  obtain ⟨xs, hxs⟩ : ∃ L : List Int, limbs m1.toNat = L := ⟨_, rfl⟩
  simp only [hxs] at vo1 f1
  have hn1 : Nrm xs := by rw [← hxs]; exact limbs_nrm _
  have hl1 : xs.length ≤ 4 := by
   rw [← hxs]
   refine (limbs_length_le _ _).2 ?_
   rw [show (65536 : Int) ^ 4 = 18446744073709551616 by decide]
   omega
  replace ci1 := hide ci1
  replace cn1 := hide cn1
  replace vo1 := hide vo1
  clear hI1 h1 hxs j1 c1 d1
  have ci2 := fun w => isInf_no h2 (by omega) w
  have cn2 := fun w => isNan_no h2 (by omega) w
  have vo2 := fun w => valueOf_fin h2 j2 w
  obtain ⟨I2, hI2⟩ : ∃ y, ivl k2 n2 m2 e2 = y := ⟨_, rfl⟩
  simp only [hI2] at ci2 cn2 vo2 ⊢
  obtain ⟨ys, hys⟩ : ∃ L : List Int, limbs m2.toNat = L := ⟨_, rfl⟩
  simp only [hys] at vo2 f2
  have hn2 : Nrm ys := by rw [← hys]; exact limbs_nrm _
  have hl2 : ys.length ≤ 4 := by
   rw [← hys]
   refine (limbs_length_le _ _).2 ?_
   rw [show (65536 : Int) ^ 4 = 18446744073709551616 by decide]
   omega
  replace ci2 := hide ci2
  replace cn2 := hide cn2
  replace vo2 := hide vo2
  clear hI2 h2 hys j2 c2 d2
  have ci3 := fun w => isInf_no h3 (by omega) w
  have cn3 := fun w => isNan_no h3 (by omega) w
  have vo3 := fun w => valueOf_fin h3 j3 w
  obtain ⟨I3, hI3⟩ : ∃ y, ivl k3 n3 m3 e3 = y := ⟨_, rfl⟩
  simp only [hI3] at ci3 cn3 vo3 ⊢
  obtain ⟨zs, hzs⟩ : ∃ L : List Int, limbs m3.toNat = L := ⟨_, rfl⟩
  simp only [hzs] at vo3 f3
  have hn3 : Nrm zs := by rw [← hzs]; exact limbs_nrm _
  have hl3 : zs.length ≤ 4 := by
   rw [← hzs]
   refine (limbs_length_le _ _).2 ?_
   rw [show (65536 : Int) ^ 4 = 18446744073709551616 by decide]
   omega
  replace ci3 := hide ci3
  replace cn3 := hide cn3
  replace vo3 := hide vo3
  clear hI3 h3 hzs j3 c3 d3
  have HF1 := hide f1
  have HF2 := hide f2
  have HF3 := hide f3
  clear f1 f2 f3
  obtain ⟨Wn, hn0⟩ : ∃ wz, wz = (w.alloc (.cells #[.int .i64 0, .bool false, .int .i64 0, .int .i64 0] 24)) := ⟨_, rfl⟩
  have k0 : Kept 0 0 w Wn := by rw [hn0]; exact ((Kept.refl 0 0 w).alloc _)
  obtain ⟨q0, q1, q2, q3, qf0, qf1, qf2, qf3⟩ := new4 hn0 (n := w.heap.size) (by simp)
  have s0 : Wn.heap.size = w.heap.size + 1 := by rw [hn0]; exact by simp
  subst hn0
  have K := hide (k0)
  clear k0
  have S0 := hide s0
  clear s0
  go_enter Tryz.func37, Tryz.ntmps37
  go_wp2_with fail
  generalize (w.alloc (.cells #[.int .i64 0, .bool false, .int .i64 0, .int .i64 0] 24)) = W at *
  refine (unhide ci1 _).mono ?_
  rintro e w1 ⟨rfl, k1⟩
  replace qf0 := k1.loose0 (zbl q0) qf0
  replace qf1 := k1.loose0 (zbl q1) qf1
  replace qf2 := k1.loose0 (zbl q2) qf2
  replace qf3 := k1.loose0 (zbl q3) qf3
  replace q0 := k1.cell0 q0
  replace q1 := k1.cell0 q1
  replace q2 := k1.cell0 q2
  replace q3 := k1.cell0 q3
  replace K := hide ((unhide K).trans k1)
  have z2 := k1.size
  clear k1
  go_wp2_with fail
  refine (unhide cn1 _).mono ?_
  rintro e w3 ⟨rfl, k3⟩
  replace qf0 := k3.loose0 (zbl q0) qf0
  replace qf1 := k3.loose0 (zbl q1) qf1
  replace qf2 := k3.loose0 (zbl q2) qf2
  replace qf3 := k3.loose0 (zbl q3) qf3
  replace q0 := k3.cell0 q0
  replace q1 := k3.cell0 q1
  replace q2 := k3.cell0 q2
  replace q3 := k3.cell0 q3
  replace K := hide ((unhide K).trans k3)
  have z4 := k3.size
  clear k3
  go_wp2_with fail
  refine (unhide ci2 _).mono ?_
  rintro e w5 ⟨rfl, k5⟩
  replace qf0 := k5.loose0 (zbl q0) qf0
  replace qf1 := k5.loose0 (zbl q1) qf1
  replace qf2 := k5.loose0 (zbl q2) qf2
  replace qf3 := k5.loose0 (zbl q3) qf3
  replace q0 := k5.cell0 q0
  replace q1 := k5.cell0 q1
  replace q2 := k5.cell0 q2
  replace q3 := k5.cell0 q3
  replace K := hide ((unhide K).trans k5)
  have z6 := k5.size
  clear k5
  go_wp2_with fail
  refine (unhide cn2 _).mono ?_
  rintro e w7 ⟨rfl, k7⟩
  replace qf0 := k7.loose0 (zbl q0) qf0
  replace qf1 := k7.loose0 (zbl q1) qf1
  replace qf2 := k7.loose0 (zbl q2) qf2
  replace qf3 := k7.loose0 (zbl q3) qf3
  replace q0 := k7.cell0 q0
  replace q1 := k7.cell0 q1
  replace q2 := k7.cell0 q2
  replace q3 := k7.cell0 q3
  replace K := hide ((unhide K).trans k7)
  have z8 := k7.size
  clear k7
  go_wp2_with fail
  refine (unhide ci3 _).mono ?_
  rintro e w9 ⟨rfl, k9⟩
  replace qf0 := k9.loose0 (zbl q0) qf0
  replace qf1 := k9.loose0 (zbl q1) qf1
  replace qf2 := k9.loose0 (zbl q2) qf2
  replace qf3 := k9.loose0 (zbl q3) qf3
  replace q0 := k9.cell0 q0
  replace q1 := k9.cell0 q1
  replace q2 := k9.cell0 q2
  replace q3 := k9.cell0 q3
  replace K := hide ((unhide K).trans k9)
  have z10 := k9.size
  clear k9
  go_wp2_with fail
  refine (unhide cn3 _).mono ?_
  rintro e w11 ⟨rfl, k11⟩
  replace qf0 := k11.loose0 (zbl q0) qf0
  replace qf1 := k11.loose0 (zbl q1) qf1
  replace qf2 := k11.loose0 (zbl q2) qf2
  replace qf3 := k11.loose0 (zbl q3) qf3
  replace q0 := k11.cell0 q0
  replace q1 := k11.cell0 q1
  replace q2 := k11.cell0 q2
  replace q3 := k11.cell0 q3
  replace K := hide ((unhide K).trans k11)
  have z12 := k11.size
  clear k11
  go_wp2_with fail
  clear ci1 cn1 ci2 cn2 ci3 cn3
  have Q0 := q0
  have QF0 := qf0
  have Q1 := q1
  have QF1 := qf1
  have Q2 := q2
  have QF2 := qf2
  have Q3 := q3
  have QF3 := qf3
  have KW := K
  refine (unhide vo1 _).mono ?_
  rintro e w13 ⟨v1, rfl, o1, k13⟩
  replace qf0 := k13.loose0 (zbl q0) qf0
  replace qf1 := k13.loose0 (zbl q1) qf1
  replace qf2 := k13.loose0 (zbl q2) qf2
  replace qf3 := k13.loose0 (zbl q3) qf3
  replace q0 := k13.cell0 q0
  replace q1 := k13.cell0 q1
  replace q2 := k13.cell0 q2
  replace q3 := k13.cell0 q3
  replace K := hide ((unhide K).trans k13)
  have z14 := k13.size
  have KV := k13
  have l1 := o1.lt
  go_wp2_with fail
  refine (unhide vo2 _).mono ?_
  rintro e w15 ⟨v2, rfl, o2, k15⟩
  replace KV := KV.trans k15
  replace o1 := own_kept o1 k15
  replace qf0 := k15.loose0 (zbl q0) qf0
  replace qf1 := k15.loose0 (zbl q1) qf1
  replace qf2 := k15.loose0 (zbl q2) qf2
  replace qf3 := k15.loose0 (zbl q3) qf3
  replace q0 := k15.cell0 q0
  replace q1 := k15.cell0 q1
  replace q2 := k15.cell0 q2
  replace q3 := k15.cell0 q3
  replace K := hide ((unhide K).trans k15)
  have z16 := k15.size
  clear k15
  have l2 := o2.lt
  go_wp2_with fail
  refine (unhide vo3 _).mono ?_
  rintro e w17 ⟨v3, rfl, o3, k17⟩
  replace KV := KV.trans k17
  replace o1 := own_kept o1 k17
  replace o2 := own_kept o2 k17
  replace qf0 := k17.loose0 (zbl q0) qf0
  replace qf1 := k17.loose0 (zbl q1) qf1
  replace qf2 := k17.loose0 (zbl q2) qf2
  replace qf3 := k17.loose0 (zbl q3) qf3
  replace q0 := k17.cell0 q0
  replace q1 := k17.cell0 q1
  replace q2 := k17.cell0 q2
  replace q3 := k17.cell0 q3
  replace K := hide ((unhide K).trans k17)
  have z18 := k17.size
  clear k17
  have l3 := o3.lt
  clear vo1 vo2 vo3
  obtain ⟨p1, c1, hv⟩ := own_slice o1
  subst hv
  obtain ⟨p2, c2, hv⟩ := own_slice o2
  subst hv
  obtain ⟨p3, c3, hv⟩ := own_slice o3
  subst hv
  obtain ⟨kn, N1, D1, E1, N2, D2, E2, N3, D3, E3, L3, sz5⟩ := dya_new3 n1 n2 n3 e1 e2 e3 79 KV o1 o2 o3 (by omega) (by omega) _ rfl
  replace KV := KV.trans kn
  clear kn o1 o2 o3 q0 q1 q2 q3 qf0 qf1 qf2 qf3 K
  go_wp2_with fail
  generalize ((w17.alloc (.cells #[.slice p1 xs.length c1, .bool n1, .int .i64 e1] 79)).alloc (.cells #[.slice p2 ys.length c2, .bool n2, .int .i64 e2] 79)).alloc (.cells #[.slice p3 zs.length c3, .bool n3, .int .i64 e3] 79) = W5 at *
  have zV := KV.size
  refine (multiplyDyadic_old N1 N2 D1 D2 E1 E2 (by omega) hn1 hn2 (by omega) (by omega) (by omega) (by omega) (by omega) (by omega)).mono ?_
  rintro e w6 ⟨⟨r6, rfl⟩, u6, nd, dd, ee, m6⟩
  clear N1 N2 D1 D2 E1 E2
  have nZ : ¬ (w17.heap.size + 2 = w17.heap.size) := by omega
  have N3' := N3.mod m6 nZ (fun i e => by have := (L3 i e).2; omega)
  have D3' : Sd w6 (w17.heap.size + 2) n3 := ⟨m6.cell (a := ⟨w17.heap.size + 2, 1, none⟩) nZ D3.1, m6.loose (a := ⟨w17.heap.size + 2, 1, none⟩) nZ (zbl D3.1) D3.2⟩
  have E3' : Ex w6 (w17.heap.size + 2) e3 := ⟨m6.cell (a := ⟨w17.heap.size + 2, 2, none⟩) nZ E3.1, m6.loose (a := ⟨w17.heap.size + 2, 2, none⟩) nZ (zbl E3.1) E3.2⟩
  have k6 := KV.mod m6 (fun i e => by omega)
  have hw := mulw n1 n2 hn1.1 hn2.1
  obtain ⟨PS, hPS⟩ : ∃ y, limbs (val xs * val ys).toNat = y := ⟨_, rfl⟩
  rw [hPS] at nd hw
  have hnP : Nrm PS := by rw [← hPS]; exact limbs_nrm _
  have hlP : PS.length ≤ 8 := by rw [← hPS]; exact mul_len' hn1.1 hn2.1 hl1 hl2
  rw [unhide HF1, unhide HF2] at hw
  have lu : ∀ i, u6.ownBlock = some i → W5.heap.size ≤ i := fun i e => (nd.own.lt i e).1
  have t0 : Two w11 w6 w17.heap.size (w17.heap.size + 2) u6 (.slice p3 zs.length c3) PS zs := ⟨nd.less (by omega), N3'.less (by omega), by omega, fun e => by have := lu _ e; omega, fun e => by have := (L3 _ e).2; omega, fun i e1 e2 => by have := lu _ e1; have := (L3 _ e2).2; omega, k6, by omega, by omega⟩
  have fo := fma_form (mode := mode) (lo := min (e1 + e2) e3) (A := 2 ^ (e1 + e2 - min (e1 + e2) e3).toNat) (B := 2 ^ (e3 - min (e1 + e2) e3).toNat) (MD := (mode == 3)) hw hnP (unhide HF3) hn3
  rw [unhide HQ] at fo
  have mk := roundedSum_impl t0 dd D3' ee E3' hnP hn3 (by omega) (by omega) (by omega) (by omega) (by omega) (by omega) mode hm0 hm4 (T.kept (unhide KW))
  rw [fo] at mk
  have MK := hide mk
  clear mk fo hw hPS t0 dd D3' ee E3' nd N3 N3' D3 E3 m6 k6
  go_wp2_with fail
  refine (unhide MK).mono ?_
  rintro e w7 ⟨rfl, k7⟩
  have qf0 : w7.frozen? ⟨w.heap.size, 0, none⟩ = false := k7.loose0 (zbl Q0) QF0
  have qf1 : w7.frozen? ⟨w.heap.size, 1, none⟩ = false := k7.loose0 (zbl Q1) QF1
  have qf2 : w7.frozen? ⟨w.heap.size, 2, none⟩ = false := k7.loose0 (zbl Q2) QF2
  have qf3 : w7.frozen? ⟨w.heap.size, 3, none⟩ = false := k7.loose0 (zbl Q3) QF3
  have q0 : w7.cell? ⟨w.heap.size, 0, none⟩ = _ := k7.cell0 Q0
  have q1 : w7.cell? ⟨w.heap.size, 1, none⟩ = _ := k7.cell0 Q1
  have q2 : w7.cell? ⟨w.heap.size, 2, none⟩ = _ := k7.cell0 Q2
  have q3 : w7.cell? ⟨w.heap.size, 3, none⟩ = _ := k7.cell0 Q3
  have K := hide ((unhide KW).trans k7)
  clear k7 MK KW Q0 Q1 Q2 Q3 QF0 QF1 QF2 QF3
  have KF := hide (((((unhide K).setNew (p := ⟨w.heap.size, 0, none⟩) (by simp) (.int .i64 Q.1.1)).setNew (p := ⟨w.heap.size, 1, none⟩) (by simp) (.bool Q.1.2.1)).setNew (p := ⟨w.heap.size, 2, none⟩) (by simp) (.int .i64 Q.1.2.2.1)).setNew (p := ⟨w.heap.size, 3, none⟩) (by simp) (.int .i64 Q.1.2.2.2))
  clear K
  try go_wp2_with fail
  exact bodyPost_ret (v := .tuple #[.agg #[.int .i64 Q.1.1, .bool Q.1.2.1, .int .i64 Q.1.2.2.1, .int .i64 Q.1.2.2.2], .int .i64 Q.2]) (by simp [results, Tryz.results37, go_sem, q0, q1, q2, q3]) rfl ⟨rfl, unhide KF⟩

end Go.Proofs.YtepehpkmejjhiaaGreatDoor

