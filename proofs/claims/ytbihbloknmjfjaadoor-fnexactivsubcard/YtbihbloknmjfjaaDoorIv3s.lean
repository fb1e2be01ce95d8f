/-
  Intervals of the program: IvSub.
-/
import Derived.Test.YtbihbloknmjfjaaDoorIv1D
import Derived.Test.YtbihbloknmjfjaaDoorIv2P
import Derived.Test.YtbihbloknmjfjaaDoorIdsub
import Derived.Deep.DeepCutAuto
import Derived.Deep.RegionHeld3
namespace Go.Proofs.YtbihbloknmjfjaaDoor
open Go.RowKit
set_option linter.unusedVariables false
set_option maxRecDepth 8000
set_option linter.unusedSimpArgs false

set_option maxHeartbeats 2000000 in
theorem ivsub1_impl {b1 b2 : Bool} {w1l w1h w2l w2h : Nat} {v1 v2 : Value} {l1 l2 : List Int} (s1 : Bool) (e1 : Int) (hu1 : e1 ≤ 9223372036854775807) (hd1 : -9223372036854775808 ≤ e1) (s2 : Bool) (e2 : Int) (hu2 : e2 ≤ 9223372036854775807) (hd2 : -9223372036854775808 ≤ e2) (w : World) (r1 : Row .i64 b1 w1l w1h w v1 l1) (r2 : Row .i64 b2 w2l w2h w v2 l2) (T : TabB w) (mode : Int) :
    Calls Tryd.prog 41 #[.agg #[.bool s1, v1, .int .i64 e1, .bool s2, v2, .int .i64 e2], .int .i64 mode] w fun e w' => ∃ v', e = .returned (.tuple #[.agg #[.bool (ansDS (dokB s1 l1 e1 && dokB s2 l2 e2) (wval s1 l1 * 2 ^ (e1 - min e1 e2).toNat - wval s2 l2 * 2 ^ (e2 - min e1 e2).toNat) (min e1 e2)), v', .int .i64 (ansDE (dokB s1 l1 e1 && dokB s2 l2 e2) (wval s1 l1 * 2 ^ (e1 - min e1 e2).toNat - wval s2 l2 * 2 ^ (e2 - min e1 e2).toNat) (min e1 e2))], .bool (ansDB (dokB s1 l1 e1 && dokB s2 l2 e2) (wval s1 l1 * 2 ^ (e1 - min e1 e2).toNat - wval s2 l2 * 2 ^ (e2 - min e1 e2).toNat) (min e1 e2))]) ∧ Row .i64 true w.heap.size w'.heap.size w' v' (ansDL (dokB s1 l1 e1 && dokB s2 l2 e2) (wval s1 l1 * 2 ^ (e1 - min e1 e2).toNat - wval s2 l2 * 2 ^ (e2 - min e1 e2).toNat) (min e1 e2)) ∧ Kept 0 0 w w' := by
  obtain ⟨GS, hGS⟩ : ∃ y, ansDS (dokB s1 l1 e1 && dokB s2 l2 e2) (wval s1 l1 * 2 ^ (e1 - min e1 e2).toNat - wval s2 l2 * 2 ^ (e2 - min e1 e2).toNat) (min e1 e2) = y := ⟨_, rfl⟩
  obtain ⟨GL, hGL⟩ : ∃ y, ansDL (dokB s1 l1 e1 && dokB s2 l2 e2) (wval s1 l1 * 2 ^ (e1 - min e1 e2).toNat - wval s2 l2 * 2 ^ (e2 - min e1 e2).toNat) (min e1 e2) = y := ⟨_, rfl⟩
  obtain ⟨GE, hGE⟩ : ∃ y, ansDE (dokB s1 l1 e1 && dokB s2 l2 e2) (wval s1 l1 * 2 ^ (e1 - min e1 e2).toNat - wval s2 l2 * 2 ^ (e2 - min e1 e2).toNat) (min e1 e2) = y := ⟨_, rfl⟩
  obtain ⟨GB, hGB⟩ : ∃ y, ansDB (dokB s1 l1 e1 && dokB s2 l2 e2) (wval s1 l1 * 2 ^ (e1 - min e1 e2).toNat - wval s2 l2 * 2 ^ (e2 - min e1 e2).toNat) (min e1 e2) = y := ⟨_, rfl⟩
  try rw [hGS]
  try rw [hGL]
  try rw [hGE]
  try rw [hGB]
  have HGS := hide hGS
  have HGL := hide hGL
  have HGE := hide hGE
  have HGB := hide hGB
  clear hGS hGL hGE hGB
  obtain ⟨Wn, hn0⟩ : ∃ wz, wz = ((w.alloc (.cells #[.bool s1, v1, .int .i64 e1, .bool s2, v2, .int .i64 e2] 72)).alloc (.cells #[.bool false, .slice none 0 0, .int .i64 0] 34)) := ⟨_, rfl⟩
  have k0 : Kept 0 0 w Wn := by rw [hn0]; exact (((Kept.refl 0 0 w).alloc _).alloc _)
  have bp0 : Wn.cell? ⟨w.heap.size, 0, none⟩ = some (.bool s1) := by rw [hn0]; exact old_cell _ (new_cell2 _ _ _ _ _ _ (by simp) rfl)
  have bp1 : Wn.cell? ⟨w.heap.size, 1, none⟩ = some (v1) := by rw [hn0]; exact old_cell _ (new_cell2 _ _ _ _ _ _ (by simp) rfl)
  have bp2 : Wn.cell? ⟨w.heap.size, 2, none⟩ = some (.int .i64 e1) := by rw [hn0]; exact old_cell _ (new_cell2 _ _ _ _ _ _ (by simp) rfl)
  have bp3 : Wn.cell? ⟨w.heap.size, 3, none⟩ = some (.bool s2) := by rw [hn0]; exact old_cell _ (new_cell2 _ _ _ _ _ _ (by simp) rfl)
  have bp4 : Wn.cell? ⟨w.heap.size, 4, none⟩ = some (v2) := by rw [hn0]; exact old_cell _ (new_cell2 _ _ _ _ _ _ (by simp) rfl)
  have bp5 : Wn.cell? ⟨w.heap.size, 5, none⟩ = some (.int .i64 e2) := by rw [hn0]; exact old_cell _ (new_cell2 _ _ _ _ _ _ (by simp) rfl)
  have q0 : Wn.cell? ⟨w.heap.size + 1, 0, none⟩ = some (.bool false) := by rw [hn0]; exact new_cell2 _ _ _ _ _ _ (by simp) rfl
  have qf0 : Wn.frozen? ⟨w.heap.size + 1, 0, none⟩ = false := by rw [hn0]; exact new_loose2 _ _ _ _ _ (by simp)
  have q1 : Wn.cell? ⟨w.heap.size + 1, 1, none⟩ = some (.slice none 0 0) := by rw [hn0]; exact new_cell2 _ _ _ _ _ _ (by simp) rfl
  have qf1 : Wn.frozen? ⟨w.heap.size + 1, 1, none⟩ = false := by rw [hn0]; exact new_loose2 _ _ _ _ _ (by simp)
  have q2 : Wn.cell? ⟨w.heap.size + 1, 2, none⟩ = some (.int .i64 0) := by rw [hn0]; exact new_cell2 _ _ _ _ _ _ (by simp) rfl
  have qf2 : Wn.frozen? ⟨w.heap.size + 1, 2, none⟩ = false := by rw [hn0]; exact new_loose2 _ _ _ _ _ (by simp)
  subst hn0
  replace r1 := r1.kept k0 (by omega)
  replace r2 := r2.kept k0 (by omega)
  have s0 : ((w.alloc (.cells #[.bool s1, v1, .int .i64 e1, .bool s2, v2, .int .i64 e2] 72)).alloc (.cells #[.bool false, .slice none 0 0, .int .i64 0] 34)).heap.size = w.heap.size + 2 := by simp
  obtain ⟨a1, c1, hv⟩ := Row.form' r1
  subst hv
  obtain ⟨a2, c2, hv⟩ := Row.form' r2
  subst hv
  have K := hide (k0)
  clear k0
  have S0 := hide s0
  clear s0
  go_enter Tryd.func41, Tryd.ntmps41
  go_wp2_with fail
  generalize ((w.alloc (.cells #[.bool s1, .slice a1 l1.length c1, .int .i64 e1, .bool s2, .slice a2 l2.length c2, .int .i64 e2] 72)).alloc (.cells #[.bool false, .slice none 0 0, .int .i64 0] 34)) = W at *
  have mk := dsub_impl s1 s2 e1 e2 hu1 hd1 hu2 hd2 W r1 r2 (T.kept (unhide K))
  rw [unhide HGS, unhide HGL, unhide HGE, unhide HGB] at mk
  refine (mk).mono ?_
  rintro e w1 ⟨v7, rfl, r7, k1⟩
  replace r1 := r1.kp k1
  replace r2 := r2.kp k1
  replace qf0 := k1.loose0 (zbl q0) qf0
  replace qf1 := k1.loose0 (zbl q1) qf1
  replace qf2 := k1.loose0 (zbl q2) qf2
  replace bp0 := k1.cell0 bp0
  replace bp1 := k1.cell0 bp1
  replace bp2 := k1.cell0 bp2
  replace bp3 := k1.cell0 bp3
  replace bp4 := k1.cell0 bp4
  replace bp5 := k1.cell0 bp5
  replace q0 := k1.cell0 q0
  replace q1 := k1.cell0 q1
  replace q2 := k1.cell0 q2
  replace K := hide ((unhide K).trans k1)
  have z2 := k1.size
  clear k1
  clear mk
  obtain ⟨a7, c7, hv⟩ := Row.form' r7
  subst hv
  have R := hide ((((r7.set_other (p := ⟨w.heap.size + 1, 0, none⟩) (.inl (by have := unhide S0; dsimp only; omega)) (.bool GS)).set_other (p := ⟨w.heap.size + 1, 1, none⟩) (.inl (by have := unhide S0; dsimp only; omega)) (.slice a7 GL.length c7)).set_other (p := ⟨w.heap.size + 1, 2, none⟩) (.inl (by have := unhide S0; dsimp only; omega)) (.int .i64 GE)).tight.wider (lo' := w.heap.size) (by have := unhide S0; omega) (Nat.le_refl _))
  have K7 := hide ((((unhide K).setNew (p := ⟨w.heap.size + 1, 0, none⟩) (by simp) (.bool GS)).setNew (p := ⟨w.heap.size + 1, 1, none⟩) (by simp) (.slice a7 GL.length c7)).setNew (p := ⟨w.heap.size + 1, 2, none⟩) (by simp) (.int .i64 GE))
  clear r1 r2 r7 K 
  go_wp2_with fail
  exact bodyPost_ret (v := .tuple #[.agg #[.bool GS, .slice a7 GL.length c7, .int .i64 GE], .bool GB]) (by simp [results, Tryd.results41, go_sem, q0, q1, q2]) rfl ⟨_, rfl, unhide R, unhide K7⟩

theorem in_ivsub1 : ∀ (w : World) (args : Array Value), (callFunc 41 args).run Tryd.prog w = .ok (.enter 41 args) w := enters Tryd.func41 (by decide) (fun h => by cases h)

set_option maxHeartbeats 8000000 in
theorem ivsub_impl {b1 b2 b3 b4 : Bool} {w1l w1h w2l w2h w3l w3h w4l w4h : Nat} {v1 v2 v3 v4 : Value} {l1 l2 l3 l4 : List Int} (s1 : Bool) (e1 : Int) (hu1 : e1 ≤ 9223372036854775807) (hd1 : -9223372036854775808 ≤ e1) (s2 : Bool) (e2 : Int) (hu2 : e2 ≤ 9223372036854775807) (hd2 : -9223372036854775808 ≤ e2) (s3 : Bool) (e3 : Int) (hu3 : e3 ≤ 9223372036854775807) (hd3 : -9223372036854775808 ≤ e3) (s4 : Bool) (e4 : Int) (hu4 : e4 ≤ 9223372036854775807) (hd4 : -9223372036854775808 ≤ e4) (w : World) (r1 : Row .i64 b1 w1l w1h w v1 l1) (r2 : Row .i64 b2 w2l w2h w v2 l2) (r3 : Row .i64 b3 w3l w3h w v3 l3) (r4 : Row .i64 b4 w4l w4h w v4 l4) (T : TabB w) :
    Calls Tryd.prog 21 #[.agg #[.bool s1, v1, .int .i64 e1, .bool s2, v2, .int .i64 e2], .agg #[.bool s3, v3, .int .i64 e3, .bool s4, v4, .int .i64 e4]] w fun e w' => IvAns (ivC (iokB s1 l1 e1 s2 l2 e2 && iokB s3 l3 e3 s4 l4 e4) (wval s1 l1 * 2 ^ (e1 - min e1 e4).toNat - wval s4 l4 * 2 ^ (e4 - min e1 e4).toNat) (min e1 e4) (wval s2 l2 * 2 ^ (e2 - min e2 e3).toNat - wval s3 l3 * 2 ^ (e3 - min e2 e3).toNat) (min e2 e3)) (wsg (wval s1 l1 * 2 ^ (e1 - min e1 e4).toNat - wval s4 l4 * 2 ^ (e4 - min e1 e4).toNat)) (dex (wval s1 l1 * 2 ^ (e1 - min e1 e4).toNat - wval s4 l4 * 2 ^ (e4 - min e1 e4).toNat) (min e1 e4)) (dlm (wval s1 l1 * 2 ^ (e1 - min e1 e4).toNat - wval s4 l4 * 2 ^ (e4 - min e1 e4).toNat)) (wsg (wval s2 l2 * 2 ^ (e2 - min e2 e3).toNat - wval s3 l3 * 2 ^ (e3 - min e2 e3).toNat)) (dex (wval s2 l2 * 2 ^ (e2 - min e2 e3).toNat - wval s3 l3 * 2 ^ (e3 - min e2 e3).toNat) (min e2 e3)) (dlm (wval s2 l2 * 2 ^ (e2 - min e2 e3).toNat - wval s3 l3 * 2 ^ (e3 - min e2 e3).toNat)) w e w' := by
  replace r1 := r1.tight
  replace r2 := r2.tight
  replace r3 := r3.tight
  replace r4 := r4.tight
  obtain ⟨CC, hCC⟩ : ∃ c, ivC (iokB s1 l1 e1 s2 l2 e2 && iokB s3 l3 e3 s4 l4 e4) (wval s1 l1 * 2 ^ (e1 - min e1 e4).toNat - wval s4 l4 * 2 ^ (e4 - min e1 e4).toNat) (min e1 e4) (wval s2 l2 * 2 ^ (e2 - min e2 e3).toNat - wval s3 l3 * 2 ^ (e3 - min e2 e3).toNat) (min e2 e3) = c := ⟨_, rfl⟩
  rw [hCC]
  have HCC := hide hCC
  clear hCC
  obtain ⟨W1, hW1⟩ : ∃ c, wsg (wval s1 l1 * 2 ^ (e1 - min e1 e4).toNat - wval s4 l4 * 2 ^ (e4 - min e1 e4).toNat) = c := ⟨_, rfl⟩
  obtain ⟨D1, hD1⟩ : ∃ c, dex (wval s1 l1 * 2 ^ (e1 - min e1 e4).toNat - wval s4 l4 * 2 ^ (e4 - min e1 e4).toNat) (min e1 e4) = c := ⟨_, rfl⟩
  obtain ⟨Q1, hQ1⟩ : ∃ c, dlm (wval s1 l1 * 2 ^ (e1 - min e1 e4).toNat - wval s4 l4 * 2 ^ (e4 - min e1 e4).toNat) = c := ⟨_, rfl⟩
  obtain ⟨W2, hW2⟩ : ∃ c, wsg (wval s2 l2 * 2 ^ (e2 - min e2 e3).toNat - wval s3 l3 * 2 ^ (e3 - min e2 e3).toNat) = c := ⟨_, rfl⟩
  obtain ⟨D2, hD2⟩ : ∃ c, dex (wval s2 l2 * 2 ^ (e2 - min e2 e3).toNat - wval s3 l3 * 2 ^ (e3 - min e2 e3).toNat) (min e2 e3) = c := ⟨_, rfl⟩
  obtain ⟨Q2, hQ2⟩ : ∃ c, dlm (wval s2 l2 * 2 ^ (e2 - min e2 e3).toNat - wval s3 l3 * 2 ^ (e3 - min e2 e3).toNat) = c := ⟨_, rfl⟩
  try rw [hW1]
  try rw [hD1]
  try rw [hQ1]
  try rw [hW2]
  try rw [hD2]
  try rw [hQ2]
  have HW1 := hide hW1
  clear hW1
  have HD1 := hide hD1
  clear hD1
  have HQ1 := hide hQ1
  clear hQ1
  have HW2 := hide hW2
  clear hW2
  have HD2 := hide hD2
  clear hD2
  have HQ2 := hide hQ2
  clear hQ2
  obtain ⟨Wn, hn0⟩ : ∃ wz, wz = (((w.alloc (.cells #[.bool s1, v1, .int .i64 e1, .bool s2, v2, .int .i64 e2] 36)).alloc (.cells #[.bool s3, v3, .int .i64 e3, .bool s4, v4, .int .i64 e4] 36)).alloc (.cells #[.bool false, .slice none 0 0, .int .i64 0, .bool false, .slice none 0 0, .int .i64 0] 36)) := ⟨_, rfl⟩
  have k0 : Kept 0 0 w Wn := by rw [hn0]; exact ((((Kept.refl 0 0 w).alloc _).alloc _).alloc _)
  have bp0 : Wn.cell? ⟨w.heap.size, 0, none⟩ = some (.bool s1) := by rw [hn0]; exact old_cell _ (old_cell _ (new_cell2 _ _ _ _ _ _ (by simp) rfl))
  have bp1 : Wn.cell? ⟨w.heap.size, 1, none⟩ = some (v1) := by rw [hn0]; exact old_cell _ (old_cell _ (new_cell2 _ _ _ _ _ _ (by simp) rfl))
  have bp2 : Wn.cell? ⟨w.heap.size, 2, none⟩ = some (.int .i64 e1) := by rw [hn0]; exact old_cell _ (old_cell _ (new_cell2 _ _ _ _ _ _ (by simp) rfl))
  have bp3 : Wn.cell? ⟨w.heap.size, 3, none⟩ = some (.bool s2) := by rw [hn0]; exact old_cell _ (old_cell _ (new_cell2 _ _ _ _ _ _ (by simp) rfl))
  have bp4 : Wn.cell? ⟨w.heap.size, 4, none⟩ = some (v2) := by rw [hn0]; exact old_cell _ (old_cell _ (new_cell2 _ _ _ _ _ _ (by simp) rfl))
  have bp5 : Wn.cell? ⟨w.heap.size, 5, none⟩ = some (.int .i64 e2) := by rw [hn0]; exact old_cell _ (old_cell _ (new_cell2 _ _ _ _ _ _ (by simp) rfl))
  have bq0 : Wn.cell? ⟨w.heap.size + 1, 0, none⟩ = some (.bool s3) := by rw [hn0]; exact old_cell _ (new_cell2 _ _ _ _ _ _ (by simp) rfl)
  have bq1 : Wn.cell? ⟨w.heap.size + 1, 1, none⟩ = some (v3) := by rw [hn0]; exact old_cell _ (new_cell2 _ _ _ _ _ _ (by simp) rfl)
  have bq2 : Wn.cell? ⟨w.heap.size + 1, 2, none⟩ = some (.int .i64 e3) := by rw [hn0]; exact old_cell _ (new_cell2 _ _ _ _ _ _ (by simp) rfl)
  have bq3 : Wn.cell? ⟨w.heap.size + 1, 3, none⟩ = some (.bool s4) := by rw [hn0]; exact old_cell _ (new_cell2 _ _ _ _ _ _ (by simp) rfl)
  have bq4 : Wn.cell? ⟨w.heap.size + 1, 4, none⟩ = some (v4) := by rw [hn0]; exact old_cell _ (new_cell2 _ _ _ _ _ _ (by simp) rfl)
  have bq5 : Wn.cell? ⟨w.heap.size + 1, 5, none⟩ = some (.int .i64 e4) := by rw [hn0]; exact old_cell _ (new_cell2 _ _ _ _ _ _ (by simp) rfl)
  have R0 : Wn.cell? ⟨w.heap.size + 2, 0, none⟩ = some (.bool false) := by rw [hn0]; exact new_cell2 _ _ _ _ _ _ (by simp) rfl
  have Rf0 : Wn.frozen? ⟨w.heap.size + 2, 0, none⟩ = false := by rw [hn0]; exact new_loose2 _ _ _ _ _ (by simp)
  have R1 : Wn.cell? ⟨w.heap.size + 2, 1, none⟩ = some (.slice none 0 0) := by rw [hn0]; exact new_cell2 _ _ _ _ _ _ (by simp) rfl
  have Rf1 : Wn.frozen? ⟨w.heap.size + 2, 1, none⟩ = false := by rw [hn0]; exact new_loose2 _ _ _ _ _ (by simp)
  have R2 : Wn.cell? ⟨w.heap.size + 2, 2, none⟩ = some (.int .i64 0) := by rw [hn0]; exact new_cell2 _ _ _ _ _ _ (by simp) rfl
  have Rf2 : Wn.frozen? ⟨w.heap.size + 2, 2, none⟩ = false := by rw [hn0]; exact new_loose2 _ _ _ _ _ (by simp)
  have R3 : Wn.cell? ⟨w.heap.size + 2, 3, none⟩ = some (.bool false) := by rw [hn0]; exact new_cell2 _ _ _ _ _ _ (by simp) rfl
  have Rf3 : Wn.frozen? ⟨w.heap.size + 2, 3, none⟩ = false := by rw [hn0]; exact new_loose2 _ _ _ _ _ (by simp)
  have R4 : Wn.cell? ⟨w.heap.size + 2, 4, none⟩ = some (.slice none 0 0) := by rw [hn0]; exact new_cell2 _ _ _ _ _ _ (by simp) rfl
  have Rf4 : Wn.frozen? ⟨w.heap.size + 2, 4, none⟩ = false := by rw [hn0]; exact new_loose2 _ _ _ _ _ (by simp)
  have R5 : Wn.cell? ⟨w.heap.size + 2, 5, none⟩ = some (.int .i64 0) := by rw [hn0]; exact new_cell2 _ _ _ _ _ _ (by simp) rfl
  have Rf5 : Wn.frozen? ⟨w.heap.size + 2, 5, none⟩ = false := by rw [hn0]; exact new_loose2 _ _ _ _ _ (by simp)
  subst hn0
  replace r1 := r1.kept k0 (by omega)
  replace r2 := r2.kept k0 (by omega)
  replace r3 := r3.kept k0 (by omega)
  replace r4 := r4.kept k0 (by omega)
  have s0 : (((w.alloc (.cells #[.bool s1, v1, .int .i64 e1, .bool s2, v2, .int .i64 e2] 36)).alloc (.cells #[.bool s3, v3, .int .i64 e3, .bool s4, v4, .int .i64 e4] 36)).alloc (.cells #[.bool false, .slice none 0 0, .int .i64 0, .bool false, .slice none 0 0, .int .i64 0] 36)).heap.size = w.heap.size + 3 := by simp
  obtain ⟨a1, c1, hv⟩ := Row.form' r1
  subst hv
  obtain ⟨a2, c2, hv⟩ := Row.form' r2
  subst hv
  obtain ⟨a3, c3, hv⟩ := Row.form' r3
  subst hv
  obtain ⟨a4, c4, hv⟩ := Row.form' r4
  subst hv
  have K := hide (k0)
  clear k0
  have S0 := hide s0
  clear s0
  go_enter Tryd.func21, Tryd.ntmps21
  go_wp2_with fail
  generalize (((w.alloc (.cells #[.bool s1, .slice a1 l1.length c1, .int .i64 e1, .bool s2, .slice a2 l2.length c2, .int .i64 e2] 36)).alloc (.cells #[.bool s3, .slice a3 l3.length c3, .int .i64 e3, .bool s4, .slice a4 l4.length c4, .int .i64 e4] 36)).alloc (.cells #[.bool false, .slice none 0 0, .int .i64 0, .bool false, .slice none 0 0, .int .i64 0] 36)) = W at *
  refine (ivok_impl s1 e1 hu1 hd1 s2 e2 hu2 hd2 _ r1 r2).mono ?_
  rintro e w1 ⟨rfl, k1⟩
  replace r1 := r1.kp k1
  replace r2 := r2.kp k1
  replace r3 := r3.kp k1
  replace r4 := r4.kp k1
  replace Rf0 := k1.loose0 (zbl R0) Rf0
  replace Rf1 := k1.loose0 (zbl R1) Rf1
  replace Rf2 := k1.loose0 (zbl R2) Rf2
  replace Rf3 := k1.loose0 (zbl R3) Rf3
  replace Rf4 := k1.loose0 (zbl R4) Rf4
  replace Rf5 := k1.loose0 (zbl R5) Rf5
  replace bp0 := k1.cell0 bp0
  replace bp1 := k1.cell0 bp1
  replace bp2 := k1.cell0 bp2
  replace bp3 := k1.cell0 bp3
  replace bp4 := k1.cell0 bp4
  replace bp5 := k1.cell0 bp5
  replace bq0 := k1.cell0 bq0
  replace bq1 := k1.cell0 bq1
  replace bq2 := k1.cell0 bq2
  replace bq3 := k1.cell0 bq3
  replace bq4 := k1.cell0 bq4
  replace bq5 := k1.cell0 bq5
  replace R0 := k1.cell0 R0
  replace R1 := k1.cell0 R1
  replace R2 := k1.cell0 R2
  replace R3 := k1.cell0 R3
  replace R4 := k1.cell0 R4
  replace R5 := k1.cell0 R5
  replace K := hide ((unhide K).trans k1)
  have z2 := k1.size
  clear k1
  cases ho : iokB s1 l1 e1 s2 l2 e2
  ·have EC : Hid (CC = false) := by show _ = _; rw [← unhide HCC]; exact ivC_no (by rw [ho]; rfl)
   have K7 := hide (((((((unhide K).setNew (p := ⟨w.heap.size + 2, 0, none⟩) (by simp) (.bool false)).setNew (p := ⟨w.heap.size + 2, 1, none⟩) (by simp) (.slice none 0 0)).setNew (p := ⟨w.heap.size + 2, 2, none⟩) (by simp) (.int .i64 0)).setNew (p := ⟨w.heap.size + 2, 3, none⟩) (by simp) (.bool false)).setNew (p := ⟨w.heap.size + 2, 4, none⟩) (by simp) (.slice none 0 0)).setNew (p := ⟨w.heap.size + 2, 5, none⟩) (by simp) (.int .i64 0))
   clear r1 r2 r3 r4 K
   go_wp2_with fail
   exact bodyPost_ret (v := .tuple #[.agg #[.bool false, .slice none 0 0, .int .i64 0, .bool false, .slice none 0 0, .int .i64 0], .bool false]) (by simp [results, Tryd.results21, go_sem, R0, R1, R2, R3, R4, R5]) rfl (by rw [unhide EC]; exact ivAns_no (unhide K7))
  obtain ⟨i1, i2, -⟩ := iok_parts ho
  have I1 := hide i1
  have I2 := hide i2
  have HO := hide ho
  clear ho i1 i2
  go_wp2_with fail
  refine (ivok_impl s3 e3 hu3 hd3 s4 e4 hu4 hd4 _ r3 r4).mono ?_
  rintro e w3 ⟨rfl, k3⟩
  replace r1 := r1.kp k3
  replace r2 := r2.kp k3
  replace r3 := r3.kp k3
  replace r4 := r4.kp k3
  replace Rf0 := k3.loose0 (zbl R0) Rf0
  replace Rf1 := k3.loose0 (zbl R1) Rf1
  replace Rf2 := k3.loose0 (zbl R2) Rf2
  replace Rf3 := k3.loose0 (zbl R3) Rf3
  replace Rf4 := k3.loose0 (zbl R4) Rf4
  replace Rf5 := k3.loose0 (zbl R5) Rf5
  replace bp0 := k3.cell0 bp0
  replace bp1 := k3.cell0 bp1
  replace bp2 := k3.cell0 bp2
  replace bp3 := k3.cell0 bp3
  replace bp4 := k3.cell0 bp4
  replace bp5 := k3.cell0 bp5
  replace bq0 := k3.cell0 bq0
  replace bq1 := k3.cell0 bq1
  replace bq2 := k3.cell0 bq2
  replace bq3 := k3.cell0 bq3
  replace bq4 := k3.cell0 bq4
  replace bq5 := k3.cell0 bq5
  replace R0 := k3.cell0 R0
  replace R1 := k3.cell0 R1
  replace R2 := k3.cell0 R2
  replace R3 := k3.cell0 R3
  replace R4 := k3.cell0 R4
  replace R5 := k3.cell0 R5
  replace K := hide ((unhide K).trans k3)
  have z4 := k3.size
  clear k3
  cases ho : iokB s3 l3 e3 s4 l4 e4
  ·have EC : Hid (CC = false) := by show _ = _; rw [← unhide HCC]; exact ivC_no (by rw [ho, unhide HO]; rfl)
   have K7 := hide (((((((unhide K).setNew (p := ⟨w.heap.size + 2, 0, none⟩) (by simp) (.bool false)).setNew (p := ⟨w.heap.size + 2, 1, none⟩) (by simp) (.slice none 0 0)).setNew (p := ⟨w.heap.size + 2, 2, none⟩) (by simp) (.int .i64 0)).setNew (p := ⟨w.heap.size + 2, 3, none⟩) (by simp) (.bool false)).setNew (p := ⟨w.heap.size + 2, 4, none⟩) (by simp) (.slice none 0 0)).setNew (p := ⟨w.heap.size + 2, 5, none⟩) (by simp) (.int .i64 0))
   clear r1 r2 r3 r4 K
   go_wp2_with fail
   exact bodyPost_ret (v := .tuple #[.agg #[.bool false, .slice none 0 0, .int .i64 0, .bool false, .slice none 0 0, .int .i64 0], .bool false]) (by simp [results, Tryd.results21, go_sem, R0, R1, R2, R3, R4, R5]) rfl (by rw [unhide EC]; exact ivAns_no (unhide K7))
  obtain ⟨i3, i4, -⟩ := iok_parts ho
  have I3 := hide i3
  have I4 := hide i4
  have HC : Hid ((iokB s1 l1 e1 s2 l2 e2 && iokB s3 l3 e3 s4 l4 e4) = true) := by show _ = _; rw [ho, unhide HO]; rfl
  clear ho i3 i4
  go_upto_region 3 with fail
  go_cut [6, 7] (fun p q wx => ∃ X Y, p = .pointer (some ⟨X, 0, none⟩) ∧ q = .pointer (some ⟨Y, 0, none⟩) ∧ wx.cell? ⟨X, 0, none⟩ = some (.bool s1) ∧ wx.cell? ⟨X, 1, none⟩ = some (.slice a1 l1.length c1) ∧ wx.cell? ⟨X, 2, none⟩ = some (.int .i64 e1) ∧ wx.cell? ⟨X, 3, none⟩ = some (.bool s4) ∧ wx.cell? ⟨X, 4, none⟩ = some (.slice a4 l4.length c4) ∧ wx.cell? ⟨X, 5, none⟩ = some (.int .i64 e4) ∧ wx.cell? ⟨Y, 0, none⟩ = some (.bool s2) ∧ wx.cell? ⟨Y, 1, none⟩ = some (.slice a2 l2.length c2) ∧ wx.cell? ⟨Y, 2, none⟩ = some (.int .i64 e2) ∧ wx.cell? ⟨Y, 3, none⟩ = some (.bool s3) ∧ wx.cell? ⟨Y, 4, none⟩ = some (.slice a3 l3.length c3) ∧ wx.cell? ⟨Y, 5, none⟩ = some (.int .i64 e3) ∧ Kept 0 0 w3 wx)
  case first =>
   have kw := Kept.refl 0 0 w3
   have kd := (Kept.refl 0 0 w3).drew
   replace r1 := r1.kp kd
   replace r2 := r2.kp kd
   replace r3 := r3.kp kd
   replace r4 := r4.kp kd
   replace kw := kw.trans kd
   replace Rf0 := kd.loose0 (zbl R0) Rf0
   replace Rf1 := kd.loose0 (zbl R1) Rf1
   replace Rf2 := kd.loose0 (zbl R2) Rf2
   replace Rf3 := kd.loose0 (zbl R3) Rf3
   replace Rf4 := kd.loose0 (zbl R4) Rf4
   replace Rf5 := kd.loose0 (zbl R5) Rf5
   replace bp0 := kd.cell0 bp0
   replace bp1 := kd.cell0 bp1
   replace bp2 := kd.cell0 bp2
   replace bp3 := kd.cell0 bp3
   replace bp4 := kd.cell0 bp4
   replace bp5 := kd.cell0 bp5
   replace bq0 := kd.cell0 bq0
   replace bq1 := kd.cell0 bq1
   replace bq2 := kd.cell0 bq2
   replace bq3 := kd.cell0 bq3
   replace bq4 := kd.cell0 bq4
   replace bq5 := kd.cell0 bq5
   replace R0 := kd.cell0 R0
   replace R1 := kd.cell0 R1
   replace R2 := kd.cell0 R2
   replace R3 := kd.cell0 R3
   replace R4 := kd.cell0 R4
   replace R5 := kd.cell0 R5
   replace K := hide ((unhide K).trans kd)
   have z5 := kd.size
   clear kd
   refine wp_region_held_drew (S := (fun w' => w'.cell? ⟨w.heap.size, 0, none⟩ = some (.bool s1) ∧ w'.cell? ⟨w.heap.size, 1, none⟩ = some (.slice a1 l1.length c1) ∧ w'.cell? ⟨w.heap.size, 2, none⟩ = some (.int .i64 e1) ∧ w'.cell? ⟨w.heap.size, 3, none⟩ = some (.bool s2) ∧ w'.cell? ⟨w.heap.size, 4, none⟩ = some (.slice a2 l2.length c2) ∧ w'.cell? ⟨w.heap.size, 5, none⟩ = some (.int .i64 e2) ∧ w'.cell? ⟨w.heap.size + 1, 0, none⟩ = some (.bool s3) ∧ w'.cell? ⟨w.heap.size + 1, 1, none⟩ = some (.slice a3 l3.length c3) ∧ w'.cell? ⟨w.heap.size + 1, 2, none⟩ = some (.int .i64 e3) ∧ w'.cell? ⟨w.heap.size + 1, 3, none⟩ = some (.bool s4) ∧ w'.cell? ⟨w.heap.size + 1, 4, none⟩ = some (.slice a4 l4.length c4) ∧ w'.cell? ⟨w.heap.size + 1, 5, none⟩ = some (.int .i64 e4))) (by kernel_rfl) ?_ (fun hH => ?_)
   ·exact ⟨bp0, bp1, bp2, bp3, bp4, bp5, bq0, bq1, bq2, bq3, bq4, bq5⟩
   generalize w3.drew = wd at *
   refine wpAnyH_take (i := 0) (v := .pointer (some ⟨w.heap.size, 0, none⟩)) rfl (by kernel_rfl) (by kernel_rfl) (by kernel_rfl) (fun _ _ _ h => h) (Or.inl ⟨by rfl, ?_⟩) hH ?_
   ·intro wq hSw
    try dsimp only at hSw
    go_simp
   try simp only [Act.put, zq1, zq2, zq3, zq4, zq5, zq6]
   refine wpAnyH_take (i := 1) (v := .agg #[.bool s1, .slice a1 l1.length c1, .int .i64 e1]) rfl (by kernel_rfl) (by kernel_rfl) (by kernel_rfl) (fun _ _ _ h => h) (Or.inl ⟨by rfl, ?_⟩) hH ?_
   ·intro wq hSw
    try dsimp only at hSw
    go_simp
   try simp only [Act.put, zq1, zq2, zq3, zq4, zq5, zq6]
   refine wpAnyH_take (i := 2) (v := .pointer (some ⟨w.heap.size + 1, 3, none⟩)) rfl (by kernel_rfl) (by kernel_rfl) (by kernel_rfl) (fun _ _ _ h => h) (Or.inl ⟨by rfl, ?_⟩) hH ?_
   ·intro wq hSw
    try dsimp only at hSw
    go_simp
   try simp only [Act.put, zq1, zq2, zq3, zq4, zq5, zq6]
   refine wpAnyH_take (i := 3) (v := .agg #[.bool s4, .slice a4 l4.length c4, .int .i64 e4]) rfl (by kernel_rfl) (by kernel_rfl) (by kernel_rfl) (fun _ _ _ h => h) (Or.inl ⟨by rfl, ?_⟩) hH ?_
   ·intro wq hSw
    try dsimp only at hSw
    go_simp
   try simp only [Act.put, zq1, zq2, zq3, zq4, zq5, zq6]
   refine wpAnyH_take (i := 4) (v := .agg #[.bool s1, .slice a1 l1.length c1, .int .i64 e1, .bool s4, .slice a4 l4.length c4, .int .i64 e4]) rfl (by kernel_rfl) (by kernel_rfl) (by kernel_rfl) (fun _ _ _ h => h) (Or.inl ⟨by rfl, ?_⟩) hH ?_
   ·intro wq hSw
    try dsimp only at hSw
    go_simp
   try simp only [Act.put, zq1, zq2, zq3, zq4, zq5, zq6]
   refine wpAnyH_take (i := 5) (v := .pointer (some ⟨w.heap.size, 3, none⟩)) rfl (by kernel_rfl) (by kernel_rfl) (by kernel_rfl) (fun _ _ _ h => h) (Or.inl ⟨by rfl, ?_⟩) hH ?_
   ·intro wq hSw
    try dsimp only at hSw
    go_simp
   try simp only [Act.put, zq1, zq2, zq3, zq4, zq5, zq6]
   refine wpAnyH_take (i := 6) (v := .agg #[.bool s2, .slice a2 l2.length c2, .int .i64 e2]) rfl (by kernel_rfl) (by kernel_rfl) (by kernel_rfl) (fun _ _ _ h => h) (Or.inl ⟨by rfl, ?_⟩) hH ?_
   ·intro wq hSw
    try dsimp only at hSw
    go_simp
   try simp only [Act.put, zq1, zq2, zq3, zq4, zq5, zq6]
   refine wpAnyH_take (i := 7) (v := .pointer (some ⟨w.heap.size + 1, 0, none⟩)) rfl (by kernel_rfl) (by kernel_rfl) (by kernel_rfl) (fun _ _ _ h => h) (Or.inl ⟨by rfl, ?_⟩) hH ?_
   ·intro wq hSw
    try dsimp only at hSw
    go_simp
   try simp only [Act.put, zq1, zq2, zq3, zq4, zq5, zq6]
   refine wpAnyH_take (i := 8) (v := .agg #[.bool s3, .slice a3 l3.length c3, .int .i64 e3]) rfl (by kernel_rfl) (by kernel_rfl) (by kernel_rfl) (fun _ _ _ h => h) (Or.inl ⟨by rfl, ?_⟩) hH ?_
   ·intro wq hSw
    try dsimp only at hSw
    go_simp
   try simp only [Act.put, zq1, zq2, zq3, zq4, zq5, zq6]
   refine wpAnyH_take (i := 9) (v := .agg #[.bool s2, .slice a2 l2.length c2, .int .i64 e2, .bool s3, .slice a3 l3.length c3, .int .i64 e3]) rfl (by kernel_rfl) (by kernel_rfl) (by kernel_rfl) (fun _ _ _ h => h) (Or.inl ⟨by rfl, ?_⟩) hH ?_
   ·intro wq hSw
    try dsimp only at hSw
    go_simp
   try simp only [Act.put, zq1, zq2, zq3, zq4, zq5, zq6]
   refine wpAnyH_ready (rs := [10, 11]) (by kernel_rfl) (by simp) ?_
   refine AllReadyH.cons rfl (fun KK hK => ?_) (AllReadyH.cons rfl (fun KK hK => ?_) AllReadyH.nil)
   ·simp only [zq1, zq2, zq3]
    rw [if_pos (by rfl)]
    go_simp
    have kn := (Kept.refl 0 0 wd).alloc (.cells #[.bool false, .slice none 0 0, .int .i64 0, .bool false, .slice none 0 0, .int .i64 0] 72)
    replace r1 := r1.kp kn
    replace r2 := r2.kp kn
    replace r3 := r3.kp kn
    replace r4 := r4.kp kn
    replace kw := kw.trans kn
    replace Rf0 := kn.loose0 (zbl R0) Rf0
    replace Rf1 := kn.loose0 (zbl R1) Rf1
    replace Rf2 := kn.loose0 (zbl R2) Rf2
    replace Rf3 := kn.loose0 (zbl R3) Rf3
    replace Rf4 := kn.loose0 (zbl R4) Rf4
    replace Rf5 := kn.loose0 (zbl R5) Rf5
    replace bp0 := kn.cell0 bp0
    replace bp1 := kn.cell0 bp1
    replace bp2 := kn.cell0 bp2
    replace bp3 := kn.cell0 bp3
    replace bp4 := kn.cell0 bp4
    replace bp5 := kn.cell0 bp5
    replace bq0 := kn.cell0 bq0
    replace bq1 := kn.cell0 bq1
    replace bq2 := kn.cell0 bq2
    replace bq3 := kn.cell0 bq3
    replace bq4 := kn.cell0 bq4
    replace bq5 := kn.cell0 bq5
    replace R0 := kn.cell0 R0
    replace R1 := kn.cell0 R1
    replace R2 := kn.cell0 R2
    replace R3 := kn.cell0 R3
    replace R4 := kn.cell0 R4
    replace R5 := kn.cell0 R5
    replace K := hide ((unhide K).trans kn)
    have z7 := kn.size
    clear kn
    have szX_ : wd.heap.size < (wd.alloc (.cells #[.bool false, .slice none 0 0, .int .i64 0, .bool false, .slice none 0 0, .int .i64 0] 72)).heap.size := by simp
    have X_0 : (wd.alloc (.cells #[.bool false, .slice none 0 0, .int .i64 0, .bool false, .slice none 0 0, .int .i64 0] 72)).cell? ⟨wd.heap.size, 0, none⟩ = some (.bool false) := new_cell2 _ _ _ _ _ _ rfl rfl
    have X_f0 : (wd.alloc (.cells #[.bool false, .slice none 0 0, .int .i64 0, .bool false, .slice none 0 0, .int .i64 0] 72)).frozen? ⟨wd.heap.size, 0, none⟩ = false := new_loose2 _ _ _ _ _ rfl
    have X_1 : (wd.alloc (.cells #[.bool false, .slice none 0 0, .int .i64 0, .bool false, .slice none 0 0, .int .i64 0] 72)).cell? ⟨wd.heap.size, 1, none⟩ = some (.slice none 0 0) := new_cell2 _ _ _ _ _ _ rfl rfl
    have X_f1 : (wd.alloc (.cells #[.bool false, .slice none 0 0, .int .i64 0, .bool false, .slice none 0 0, .int .i64 0] 72)).frozen? ⟨wd.heap.size, 1, none⟩ = false := new_loose2 _ _ _ _ _ rfl
    have X_2 : (wd.alloc (.cells #[.bool false, .slice none 0 0, .int .i64 0, .bool false, .slice none 0 0, .int .i64 0] 72)).cell? ⟨wd.heap.size, 2, none⟩ = some (.int .i64 0) := new_cell2 _ _ _ _ _ _ rfl rfl
    have X_f2 : (wd.alloc (.cells #[.bool false, .slice none 0 0, .int .i64 0, .bool false, .slice none 0 0, .int .i64 0] 72)).frozen? ⟨wd.heap.size, 2, none⟩ = false := new_loose2 _ _ _ _ _ rfl
    have X_3 : (wd.alloc (.cells #[.bool false, .slice none 0 0, .int .i64 0, .bool false, .slice none 0 0, .int .i64 0] 72)).cell? ⟨wd.heap.size, 3, none⟩ = some (.bool false) := new_cell2 _ _ _ _ _ _ rfl rfl
    have X_f3 : (wd.alloc (.cells #[.bool false, .slice none 0 0, .int .i64 0, .bool false, .slice none 0 0, .int .i64 0] 72)).frozen? ⟨wd.heap.size, 3, none⟩ = false := new_loose2 _ _ _ _ _ rfl
    have X_4 : (wd.alloc (.cells #[.bool false, .slice none 0 0, .int .i64 0, .bool false, .slice none 0 0, .int .i64 0] 72)).cell? ⟨wd.heap.size, 4, none⟩ = some (.slice none 0 0) := new_cell2 _ _ _ _ _ _ rfl rfl
    have X_f4 : (wd.alloc (.cells #[.bool false, .slice none 0 0, .int .i64 0, .bool false, .slice none 0 0, .int .i64 0] 72)).frozen? ⟨wd.heap.size, 4, none⟩ = false := new_loose2 _ _ _ _ _ rfl
    have X_5 : (wd.alloc (.cells #[.bool false, .slice none 0 0, .int .i64 0, .bool false, .slice none 0 0, .int .i64 0] 72)).cell? ⟨wd.heap.size, 5, none⟩ = some (.int .i64 0) := new_cell2 _ _ _ _ _ _ rfl rfl
    have X_f5 : (wd.alloc (.cells #[.bool false, .slice none 0 0, .int .i64 0, .bool false, .slice none 0 0, .int .i64 0] 72)).frozen? ⟨wd.heap.size, 5, none⟩ = false := new_loose2 _ _ _ _ _ rfl
    clear hH
    refine hK.out _ _ ?_ (fun hH => ?_)
    ·exact ⟨bp0, bp1, bp2, bp3, bp4, bp5, bq0, bq1, bq2, bq3, bq4, bq5⟩
    clear hK KK
    try simp only [Act.put, zq1, zq2, zq3, zq4, zq5, zq6]
    generalize wd.alloc (.cells #[.bool false, .slice none 0 0, .int .i64 0, .bool false, .slice none 0 0, .int .i64 0] 72) = w6 at *
    refine wpAnyH_ready (rs := [11]) (by kernel_rfl) (by simp) ?_
    refine AllReadyH.cons rfl (fun KK hK => ?_) AllReadyH.nil
    ·simp only [zq1, zq2, zq3]
     rw [if_pos (by rfl)]
     go_simp
     have kn := (Kept.refl 0 0 w6).alloc (.cells #[.bool false, .slice none 0 0, .int .i64 0, .bool false, .slice none 0 0, .int .i64 0] 72)
     replace r1 := r1.kp kn
     replace r2 := r2.kp kn
     replace r3 := r3.kp kn
     replace r4 := r4.kp kn
     replace kw := kw.trans kn
     replace Rf0 := kn.loose0 (zbl R0) Rf0
     replace Rf1 := kn.loose0 (zbl R1) Rf1
     replace Rf2 := kn.loose0 (zbl R2) Rf2
     replace Rf3 := kn.loose0 (zbl R3) Rf3
     replace Rf4 := kn.loose0 (zbl R4) Rf4
     replace Rf5 := kn.loose0 (zbl R5) Rf5
     replace X_f0 := kn.loose0 (zbl X_0) X_f0
     replace X_f1 := kn.loose0 (zbl X_1) X_f1
     replace X_f2 := kn.loose0 (zbl X_2) X_f2
     replace X_f3 := kn.loose0 (zbl X_3) X_f3
     replace X_f4 := kn.loose0 (zbl X_4) X_f4
     replace X_f5 := kn.loose0 (zbl X_5) X_f5
     replace bp0 := kn.cell0 bp0
     replace bp1 := kn.cell0 bp1
     replace bp2 := kn.cell0 bp2
     replace bp3 := kn.cell0 bp3
     replace bp4 := kn.cell0 bp4
     replace bp5 := kn.cell0 bp5
     replace bq0 := kn.cell0 bq0
     replace bq1 := kn.cell0 bq1
     replace bq2 := kn.cell0 bq2
     replace bq3 := kn.cell0 bq3
     replace bq4 := kn.cell0 bq4
     replace bq5 := kn.cell0 bq5
     replace R0 := kn.cell0 R0
     replace R1 := kn.cell0 R1
     replace R2 := kn.cell0 R2
     replace R3 := kn.cell0 R3
     replace R4 := kn.cell0 R4
     replace R5 := kn.cell0 R5
     replace X_0 := kn.cell0 X_0
     replace X_1 := kn.cell0 X_1
     replace X_2 := kn.cell0 X_2
     replace X_3 := kn.cell0 X_3
     replace X_4 := kn.cell0 X_4
     replace X_5 := kn.cell0 X_5
     replace K := hide ((unhide K).trans kn)
     have z9 := kn.size
     clear kn
     have szY_ : w6.heap.size < (w6.alloc (.cells #[.bool false, .slice none 0 0, .int .i64 0, .bool false, .slice none 0 0, .int .i64 0] 72)).heap.size := by simp
     have Y_0 : (w6.alloc (.cells #[.bool false, .slice none 0 0, .int .i64 0, .bool false, .slice none 0 0, .int .i64 0] 72)).cell? ⟨w6.heap.size, 0, none⟩ = some (.bool false) := new_cell2 _ _ _ _ _ _ rfl rfl
     have Y_f0 : (w6.alloc (.cells #[.bool false, .slice none 0 0, .int .i64 0, .bool false, .slice none 0 0, .int .i64 0] 72)).frozen? ⟨w6.heap.size, 0, none⟩ = false := new_loose2 _ _ _ _ _ rfl
     have Y_1 : (w6.alloc (.cells #[.bool false, .slice none 0 0, .int .i64 0, .bool false, .slice none 0 0, .int .i64 0] 72)).cell? ⟨w6.heap.size, 1, none⟩ = some (.slice none 0 0) := new_cell2 _ _ _ _ _ _ rfl rfl
     have Y_f1 : (w6.alloc (.cells #[.bool false, .slice none 0 0, .int .i64 0, .bool false, .slice none 0 0, .int .i64 0] 72)).frozen? ⟨w6.heap.size, 1, none⟩ = false := new_loose2 _ _ _ _ _ rfl
     have Y_2 : (w6.alloc (.cells #[.bool false, .slice none 0 0, .int .i64 0, .bool false, .slice none 0 0, .int .i64 0] 72)).cell? ⟨w6.heap.size, 2, none⟩ = some (.int .i64 0) := new_cell2 _ _ _ _ _ _ rfl rfl
     have Y_f2 : (w6.alloc (.cells #[.bool false, .slice none 0 0, .int .i64 0, .bool false, .slice none 0 0, .int .i64 0] 72)).frozen? ⟨w6.heap.size, 2, none⟩ = false := new_loose2 _ _ _ _ _ rfl
     have Y_3 : (w6.alloc (.cells #[.bool false, .slice none 0 0, .int .i64 0, .bool false, .slice none 0 0, .int .i64 0] 72)).cell? ⟨w6.heap.size, 3, none⟩ = some (.bool false) := new_cell2 _ _ _ _ _ _ rfl rfl
     have Y_f3 : (w6.alloc (.cells #[.bool false, .slice none 0 0, .int .i64 0, .bool false, .slice none 0 0, .int .i64 0] 72)).frozen? ⟨w6.heap.size, 3, none⟩ = false := new_loose2 _ _ _ _ _ rfl
     have Y_4 : (w6.alloc (.cells #[.bool false, .slice none 0 0, .int .i64 0, .bool false, .slice none 0 0, .int .i64 0] 72)).cell? ⟨w6.heap.size, 4, none⟩ = some (.slice none 0 0) := new_cell2 _ _ _ _ _ _ rfl rfl
     have Y_f4 : (w6.alloc (.cells #[.bool false, .slice none 0 0, .int .i64 0, .bool false, .slice none 0 0, .int .i64 0] 72)).frozen? ⟨w6.heap.size, 4, none⟩ = false := new_loose2 _ _ _ _ _ rfl
     have Y_5 : (w6.alloc (.cells #[.bool false, .slice none 0 0, .int .i64 0, .bool false, .slice none 0 0, .int .i64 0] 72)).cell? ⟨w6.heap.size, 5, none⟩ = some (.int .i64 0) := new_cell2 _ _ _ _ _ _ rfl rfl
     have Y_f5 : (w6.alloc (.cells #[.bool false, .slice none 0 0, .int .i64 0, .bool false, .slice none 0 0, .int .i64 0] 72)).frozen? ⟨w6.heap.size, 5, none⟩ = false := new_loose2 _ _ _ _ _ rfl
     clear hH
     refine hK.out _ _ ?_ (fun hH => ?_)
     ·exact ⟨bp0, bp1, bp2, bp3, bp4, bp5, bq0, bq1, bq2, bq3, bq4, bq5⟩
     clear hK KK
     try simp only [Act.put, zq1, zq2, zq3, zq4, zq5, zq6]
     generalize w6.alloc (.cells #[.bool false, .slice none 0 0, .int .i64 0, .bool false, .slice none 0 0, .int .i64 0] 72) = w8 at *
     refine wpAnyH_ready (rs := [12]) (by kernel_rfl) (by simp) ?_
     refine AllReadyH.cons rfl (fun KK hK => ?_) AllReadyH.nil
     ·simp only [zq1, zq2, zq3]
      rw [if_pos (by rfl)]
      go_simp
      clear hH
      refine hK.out _ _ ?_ (fun hH => ?_)
      ·exact ⟨(cw6 (by have := unhide S0; dsimp only; omega) bp0), (cw6 (by have := unhide S0; dsimp only; omega) bp1), (cw6 (by have := unhide S0; dsimp only; omega) bp2), (cw6 (by have := unhide S0; dsimp only; omega) bp3), (cw6 (by have := unhide S0; dsimp only; omega) bp4), (cw6 (by have := unhide S0; dsimp only; omega) bp5), (cw6 (by have := unhide S0; dsimp only; omega) bq0), (cw6 (by have := unhide S0; dsimp only; omega) bq1), (cw6 (by have := unhide S0; dsimp only; omega) bq2), (cw6 (by have := unhide S0; dsimp only; omega) bq3), (cw6 (by have := unhide S0; dsimp only; omega) bq4), (cw6 (by have := unhide S0; dsimp only; omega) bq5)⟩
      clear hK KK
      try simp only [Act.put, zq1, zq2, zq3, zq4, zq5, zq6]
      refine wpAnyH_ready (rs := [13]) (by kernel_rfl) (by simp) ?_
      refine AllReadyH.cons rfl (fun KK hK => ?_) AllReadyH.nil
      ·simp only [zq1, zq2, zq3]
       rw [if_pos (by rfl)]
       go_simp
       clear hH
       refine hK.out _ _ ?_ (fun hH => ?_)
       ·exact ⟨(cw6 (by have := unhide S0; dsimp only; omega) (cw6 (by have := unhide S0; dsimp only; omega) bp0)), (cw6 (by have := unhide S0; dsimp only; omega) (cw6 (by have := unhide S0; dsimp only; omega) bp1)), (cw6 (by have := unhide S0; dsimp only; omega) (cw6 (by have := unhide S0; dsimp only; omega) bp2)), (cw6 (by have := unhide S0; dsimp only; omega) (cw6 (by have := unhide S0; dsimp only; omega) bp3)), (cw6 (by have := unhide S0; dsimp only; omega) (cw6 (by have := unhide S0; dsimp only; omega) bp4)), (cw6 (by have := unhide S0; dsimp only; omega) (cw6 (by have := unhide S0; dsimp only; omega) bp5)), (cw6 (by have := unhide S0; dsimp only; omega) (cw6 (by have := unhide S0; dsimp only; omega) bq0)), (cw6 (by have := unhide S0; dsimp only; omega) (cw6 (by have := unhide S0; dsimp only; omega) bq1)), (cw6 (by have := unhide S0; dsimp only; omega) (cw6 (by have := unhide S0; dsimp only; omega) bq2)), (cw6 (by have := unhide S0; dsimp only; omega) (cw6 (by have := unhide S0; dsimp only; omega) bq3)), (cw6 (by have := unhide S0; dsimp only; omega) (cw6 (by have := unhide S0; dsimp only; omega) bq4)), (cw6 (by have := unhide S0; dsimp only; omega) (cw6 (by have := unhide S0; dsimp only; omega) bq5))⟩
       clear hK KK
       try simp only [Act.put, zq1, zq2, zq3, zq4, zq5, zq6]
       refine wpAnyH_done (by kernel_rfl) ?_ _
       clear hH
       go_wp2_with fail
       go_meet
       exact ⟨_, _, rfl, rfl, pair_set kw X_0 X_1 X_2 X_3 X_4 X_5 Y_0 Y_1 Y_2 Y_3 Y_4 Y_5 (by omega) (by omega) (by omega)⟩
   ·simp only [zq1, zq2, zq3]
    rw [if_pos (by rfl)]
    go_simp
    have kn := (Kept.refl 0 0 wd).alloc (.cells #[.bool false, .slice none 0 0, .int .i64 0, .bool false, .slice none 0 0, .int .i64 0] 72)
    replace r1 := r1.kp kn
    replace r2 := r2.kp kn
    replace r3 := r3.kp kn
    replace r4 := r4.kp kn
    replace kw := kw.trans kn
    replace Rf0 := kn.loose0 (zbl R0) Rf0
    replace Rf1 := kn.loose0 (zbl R1) Rf1
    replace Rf2 := kn.loose0 (zbl R2) Rf2
    replace Rf3 := kn.loose0 (zbl R3) Rf3
    replace Rf4 := kn.loose0 (zbl R4) Rf4
    replace Rf5 := kn.loose0 (zbl R5) Rf5
    replace bp0 := kn.cell0 bp0
    replace bp1 := kn.cell0 bp1
    replace bp2 := kn.cell0 bp2
    replace bp3 := kn.cell0 bp3
    replace bp4 := kn.cell0 bp4
    replace bp5 := kn.cell0 bp5
    replace bq0 := kn.cell0 bq0
    replace bq1 := kn.cell0 bq1
    replace bq2 := kn.cell0 bq2
    replace bq3 := kn.cell0 bq3
    replace bq4 := kn.cell0 bq4
    replace bq5 := kn.cell0 bq5
    replace R0 := kn.cell0 R0
    replace R1 := kn.cell0 R1
    replace R2 := kn.cell0 R2
    replace R3 := kn.cell0 R3
    replace R4 := kn.cell0 R4
    replace R5 := kn.cell0 R5
    replace K := hide ((unhide K).trans kn)
    have z7 := kn.size
    clear kn
    have szY_ : wd.heap.size < (wd.alloc (.cells #[.bool false, .slice none 0 0, .int .i64 0, .bool false, .slice none 0 0, .int .i64 0] 72)).heap.size := by simp
    have Y_0 : (wd.alloc (.cells #[.bool false, .slice none 0 0, .int .i64 0, .bool false, .slice none 0 0, .int .i64 0] 72)).cell? ⟨wd.heap.size, 0, none⟩ = some (.bool false) := new_cell2 _ _ _ _ _ _ rfl rfl
    have Y_f0 : (wd.alloc (.cells #[.bool false, .slice none 0 0, .int .i64 0, .bool false, .slice none 0 0, .int .i64 0] 72)).frozen? ⟨wd.heap.size, 0, none⟩ = false := new_loose2 _ _ _ _ _ rfl
    have Y_1 : (wd.alloc (.cells #[.bool false, .slice none 0 0, .int .i64 0, .bool false, .slice none 0 0, .int .i64 0] 72)).cell? ⟨wd.heap.size, 1, none⟩ = some (.slice none 0 0) := new_cell2 _ _ _ _ _ _ rfl rfl
    have Y_f1 : (wd.alloc (.cells #[.bool false, .slice none 0 0, .int .i64 0, .bool false, .slice none 0 0, .int .i64 0] 72)).frozen? ⟨wd.heap.size, 1, none⟩ = false := new_loose2 _ _ _ _ _ rfl
    have Y_2 : (wd.alloc (.cells #[.bool false, .slice none 0 0, .int .i64 0, .bool false, .slice none 0 0, .int .i64 0] 72)).cell? ⟨wd.heap.size, 2, none⟩ = some (.int .i64 0) := new_cell2 _ _ _ _ _ _ rfl rfl
    have Y_f2 : (wd.alloc (.cells #[.bool false, .slice none 0 0, .int .i64 0, .bool false, .slice none 0 0, .int .i64 0] 72)).frozen? ⟨wd.heap.size, 2, none⟩ = false := new_loose2 _ _ _ _ _ rfl
    have Y_3 : (wd.alloc (.cells #[.bool false, .slice none 0 0, .int .i64 0, .bool false, .slice none 0 0, .int .i64 0] 72)).cell? ⟨wd.heap.size, 3, none⟩ = some (.bool false) := new_cell2 _ _ _ _ _ _ rfl rfl
    have Y_f3 : (wd.alloc (.cells #[.bool false, .slice none 0 0, .int .i64 0, .bool false, .slice none 0 0, .int .i64 0] 72)).frozen? ⟨wd.heap.size, 3, none⟩ = false := new_loose2 _ _ _ _ _ rfl
    have Y_4 : (wd.alloc (.cells #[.bool false, .slice none 0 0, .int .i64 0, .bool false, .slice none 0 0, .int .i64 0] 72)).cell? ⟨wd.heap.size, 4, none⟩ = some (.slice none 0 0) := new_cell2 _ _ _ _ _ _ rfl rfl
    have Y_f4 : (wd.alloc (.cells #[.bool false, .slice none 0 0, .int .i64 0, .bool false, .slice none 0 0, .int .i64 0] 72)).frozen? ⟨wd.heap.size, 4, none⟩ = false := new_loose2 _ _ _ _ _ rfl
    have Y_5 : (wd.alloc (.cells #[.bool false, .slice none 0 0, .int .i64 0, .bool false, .slice none 0 0, .int .i64 0] 72)).cell? ⟨wd.heap.size, 5, none⟩ = some (.int .i64 0) := new_cell2 _ _ _ _ _ _ rfl rfl
    have Y_f5 : (wd.alloc (.cells #[.bool false, .slice none 0 0, .int .i64 0, .bool false, .slice none 0 0, .int .i64 0] 72)).frozen? ⟨wd.heap.size, 5, none⟩ = false := new_loose2 _ _ _ _ _ rfl
    clear hH
    refine hK.out _ _ ?_ (fun hH => ?_)
    ·exact ⟨bp0, bp1, bp2, bp3, bp4, bp5, bq0, bq1, bq2, bq3, bq4, bq5⟩
    clear hK KK
    try simp only [Act.put, zq1, zq2, zq3, zq4, zq5, zq6]
    generalize wd.alloc (.cells #[.bool false, .slice none 0 0, .int .i64 0, .bool false, .slice none 0 0, .int .i64 0] 72) = w6 at *
    refine wpAnyH_ready (rs := [10]) (by kernel_rfl) (by simp) ?_
    refine AllReadyH.cons rfl (fun KK hK => ?_) AllReadyH.nil
    ·simp only [zq1, zq2, zq3]
     rw [if_pos (by rfl)]
     go_simp
     have kn := (Kept.refl 0 0 w6).alloc (.cells #[.bool false, .slice none 0 0, .int .i64 0, .bool false, .slice none 0 0, .int .i64 0] 72)
     replace r1 := r1.kp kn
     replace r2 := r2.kp kn
     replace r3 := r3.kp kn
     replace r4 := r4.kp kn
     replace kw := kw.trans kn
     replace Rf0 := kn.loose0 (zbl R0) Rf0
     replace Rf1 := kn.loose0 (zbl R1) Rf1
     replace Rf2 := kn.loose0 (zbl R2) Rf2
     replace Rf3 := kn.loose0 (zbl R3) Rf3
     replace Rf4 := kn.loose0 (zbl R4) Rf4
     replace Rf5 := kn.loose0 (zbl R5) Rf5
     replace Y_f0 := kn.loose0 (zbl Y_0) Y_f0
     replace Y_f1 := kn.loose0 (zbl Y_1) Y_f1
     replace Y_f2 := kn.loose0 (zbl Y_2) Y_f2
     replace Y_f3 := kn.loose0 (zbl Y_3) Y_f3
     replace Y_f4 := kn.loose0 (zbl Y_4) Y_f4
     replace Y_f5 := kn.loose0 (zbl Y_5) Y_f5
     replace bp0 := kn.cell0 bp0
     replace bp1 := kn.cell0 bp1
     replace bp2 := kn.cell0 bp2
     replace bp3 := kn.cell0 bp3
     replace bp4 := kn.cell0 bp4
     replace bp5 := kn.cell0 bp5
     replace bq0 := kn.cell0 bq0
     replace bq1 := kn.cell0 bq1
     replace bq2 := kn.cell0 bq2
     replace bq3 := kn.cell0 bq3
     replace bq4 := kn.cell0 bq4
     replace bq5 := kn.cell0 bq5
     replace R0 := kn.cell0 R0
     replace R1 := kn.cell0 R1
     replace R2 := kn.cell0 R2
     replace R3 := kn.cell0 R3
     replace R4 := kn.cell0 R4
     replace R5 := kn.cell0 R5
     replace Y_0 := kn.cell0 Y_0
     replace Y_1 := kn.cell0 Y_1
     replace Y_2 := kn.cell0 Y_2
     replace Y_3 := kn.cell0 Y_3
     replace Y_4 := kn.cell0 Y_4
     replace Y_5 := kn.cell0 Y_5
     replace K := hide ((unhide K).trans kn)
     have z9 := kn.size
     clear kn
     have szX_ : w6.heap.size < (w6.alloc (.cells #[.bool false, .slice none 0 0, .int .i64 0, .bool false, .slice none 0 0, .int .i64 0] 72)).heap.size := by simp
     have X_0 : (w6.alloc (.cells #[.bool false, .slice none 0 0, .int .i64 0, .bool false, .slice none 0 0, .int .i64 0] 72)).cell? ⟨w6.heap.size, 0, none⟩ = some (.bool false) := new_cell2 _ _ _ _ _ _ rfl rfl
     have X_f0 : (w6.alloc (.cells #[.bool false, .slice none 0 0, .int .i64 0, .bool false, .slice none 0 0, .int .i64 0] 72)).frozen? ⟨w6.heap.size, 0, none⟩ = false := new_loose2 _ _ _ _ _ rfl
     have X_1 : (w6.alloc (.cells #[.bool false, .slice none 0 0, .int .i64 0, .bool false, .slice none 0 0, .int .i64 0] 72)).cell? ⟨w6.heap.size, 1, none⟩ = some (.slice none 0 0) := new_cell2 _ _ _ _ _ _ rfl rfl
     have X_f1 : (w6.alloc (.cells #[.bool false, .slice none 0 0, .int .i64 0, .bool false, .slice none 0 0, .int .i64 0] 72)).frozen? ⟨w6.heap.size, 1, none⟩ = false := new_loose2 _ _ _ _ _ rfl
     have X_2 : (w6.alloc (.cells #[.bool false, .slice none 0 0, .int .i64 0, .bool false, .slice none 0 0, .int .i64 0] 72)).cell? ⟨w6.heap.size, 2, none⟩ = some (.int .i64 0) := new_cell2 _ _ _ _ _ _ rfl rfl
     have X_f2 : (w6.alloc (.cells #[.bool false, .slice none 0 0, .int .i64 0, .bool false, .slice none 0 0, .int .i64 0] 72)).frozen? ⟨w6.heap.size, 2, none⟩ = false := new_loose2 _ _ _ _ _ rfl
     have X_3 : (w6.alloc (.cells #[.bool false, .slice none 0 0, .int .i64 0, .bool false, .slice none 0 0, .int .i64 0] 72)).cell? ⟨w6.heap.size, 3, none⟩ = some (.bool false) := new_cell2 _ _ _ _ _ _ rfl rfl
     have X_f3 : (w6.alloc (.cells #[.bool false, .slice none 0 0, .int .i64 0, .bool false, .slice none 0 0, .int .i64 0] 72)).frozen? ⟨w6.heap.size, 3, none⟩ = false := new_loose2 _ _ _ _ _ rfl
     have X_4 : (w6.alloc (.cells #[.bool false, .slice none 0 0, .int .i64 0, .bool false, .slice none 0 0, .int .i64 0] 72)).cell? ⟨w6.heap.size, 4, none⟩ = some (.slice none 0 0) := new_cell2 _ _ _ _ _ _ rfl rfl
     have X_f4 : (w6.alloc (.cells #[.bool false, .slice none 0 0, .int .i64 0, .bool false, .slice none 0 0, .int .i64 0] 72)).frozen? ⟨w6.heap.size, 4, none⟩ = false := new_loose2 _ _ _ _ _ rfl
     have X_5 : (w6.alloc (.cells #[.bool false, .slice none 0 0, .int .i64 0, .bool false, .slice none 0 0, .int .i64 0] 72)).cell? ⟨w6.heap.size, 5, none⟩ = some (.int .i64 0) := new_cell2 _ _ _ _ _ _ rfl rfl
     have X_f5 : (w6.alloc (.cells #[.bool false, .slice none 0 0, .int .i64 0, .bool false, .slice none 0 0, .int .i64 0] 72)).frozen? ⟨w6.heap.size, 5, none⟩ = false := new_loose2 _ _ _ _ _ rfl
     clear hH
     refine hK.out _ _ ?_ (fun hH => ?_)
     ·exact ⟨bp0, bp1, bp2, bp3, bp4, bp5, bq0, bq1, bq2, bq3, bq4, bq5⟩
     clear hK KK
     try simp only [Act.put, zq1, zq2, zq3, zq4, zq5, zq6]
     generalize w6.alloc (.cells #[.bool false, .slice none 0 0, .int .i64 0, .bool false, .slice none 0 0, .int .i64 0] 72) = w8 at *
     refine wpAnyH_ready (rs := [12]) (by kernel_rfl) (by simp) ?_
     refine AllReadyH.cons rfl (fun KK hK => ?_) AllReadyH.nil
     ·simp only [zq1, zq2, zq3]
      rw [if_pos (by rfl)]
      go_simp
      clear hH
      refine hK.out _ _ ?_ (fun hH => ?_)
      ·exact ⟨(cw6 (by have := unhide S0; dsimp only; omega) bp0), (cw6 (by have := unhide S0; dsimp only; omega) bp1), (cw6 (by have := unhide S0; dsimp only; omega) bp2), (cw6 (by have := unhide S0; dsimp only; omega) bp3), (cw6 (by have := unhide S0; dsimp only; omega) bp4), (cw6 (by have := unhide S0; dsimp only; omega) bp5), (cw6 (by have := unhide S0; dsimp only; omega) bq0), (cw6 (by have := unhide S0; dsimp only; omega) bq1), (cw6 (by have := unhide S0; dsimp only; omega) bq2), (cw6 (by have := unhide S0; dsimp only; omega) bq3), (cw6 (by have := unhide S0; dsimp only; omega) bq4), (cw6 (by have := unhide S0; dsimp only; omega) bq5)⟩
      clear hK KK
      try simp only [Act.put, zq1, zq2, zq3, zq4, zq5, zq6]
      refine wpAnyH_ready (rs := [13]) (by kernel_rfl) (by simp) ?_
      refine AllReadyH.cons rfl (fun KK hK => ?_) AllReadyH.nil
      ·simp only [zq1, zq2, zq3]
       rw [if_pos (by rfl)]
       go_simp
       clear hH
       refine hK.out _ _ ?_ (fun hH => ?_)
       ·exact ⟨(cw6 (by have := unhide S0; dsimp only; omega) (cw6 (by have := unhide S0; dsimp only; omega) bp0)), (cw6 (by have := unhide S0; dsimp only; omega) (cw6 (by have := unhide S0; dsimp only; omega) bp1)), (cw6 (by have := unhide S0; dsimp only; omega) (cw6 (by have := unhide S0; dsimp only; omega) bp2)), (cw6 (by have := unhide S0; dsimp only; omega) (cw6 (by have := unhide S0; dsimp only; omega) bp3)), (cw6 (by have := unhide S0; dsimp only; omega) (cw6 (by have := unhide S0; dsimp only; omega) bp4)), (cw6 (by have := unhide S0; dsimp only; omega) (cw6 (by have := unhide S0; dsimp only; omega) bp5)), (cw6 (by have := unhide S0; dsimp only; omega) (cw6 (by have := unhide S0; dsimp only; omega) bq0)), (cw6 (by have := unhide S0; dsimp only; omega) (cw6 (by have := unhide S0; dsimp only; omega) bq1)), (cw6 (by have := unhide S0; dsimp only; omega) (cw6 (by have := unhide S0; dsimp only; omega) bq2)), (cw6 (by have := unhide S0; dsimp only; omega) (cw6 (by have := unhide S0; dsimp only; omega) bq3)), (cw6 (by have := unhide S0; dsimp only; omega) (cw6 (by have := unhide S0; dsimp only; omega) bq4)), (cw6 (by have := unhide S0; dsimp only; omega) (cw6 (by have := unhide S0; dsimp only; omega) bq5))⟩
       clear hK KK
       try simp only [Act.put, zq1, zq2, zq3, zq4, zq5, zq6]
       refine wpAnyH_done (by kernel_rfl) ?_ _
       clear hH
       go_wp2_with fail
       go_meet
       exact ⟨_, _, rfl, rfl, pair_set kw X_0 X_1 X_2 X_3 X_4 X_5 Y_0 Y_1 Y_2 Y_3 Y_4 Y_5 (by omega) (by omega) (by omega)⟩
  case rest =>
   obtain ⟨X, Y, rfl, rfl, X_0, X_1, X_2, X_3, X_4, X_5, Y_0, Y_1, Y_2, Y_3, Y_4, Y_5, kk⟩ := hcut
   replace r1 := r1.kp kk
   replace r2 := r2.kp kk
   replace r3 := r3.kp kk
   replace r4 := r4.kp kk
   replace Rf0 := kk.loose0 (zbl R0) Rf0
   replace Rf1 := kk.loose0 (zbl R1) Rf1
   replace Rf2 := kk.loose0 (zbl R2) Rf2
   replace Rf3 := kk.loose0 (zbl R3) Rf3
   replace Rf4 := kk.loose0 (zbl R4) Rf4
   replace Rf5 := kk.loose0 (zbl R5) Rf5
   replace bp0 := kk.cell0 bp0
   replace bp1 := kk.cell0 bp1
   replace bp2 := kk.cell0 bp2
   replace bp3 := kk.cell0 bp3
   replace bp4 := kk.cell0 bp4
   replace bp5 := kk.cell0 bp5
   replace bq0 := kk.cell0 bq0
   replace bq1 := kk.cell0 bq1
   replace bq2 := kk.cell0 bq2
   replace bq3 := kk.cell0 bq3
   replace bq4 := kk.cell0 bq4
   replace bq5 := kk.cell0 bq5
   replace R0 := kk.cell0 R0
   replace R1 := kk.cell0 R1
   replace R2 := kk.cell0 R2
   replace R3 := kk.cell0 R3
   replace R4 := kk.cell0 R4
   replace R5 := kk.cell0 R5
   replace K := hide ((unhide K).trans kk)
   have z5 := kk.size
   clear kk
   generalize hwc : wc = we6 at *
   clear hwc
   go_wp2_with fail
   have mk := (bothEnds_P s1 s2 s4 s3 e1 e2 e4 e3 41 in_ivsub1 we6 (fun w1 kk => ivsub1_impl s1 e1 hu1 hd1 s4 e4 hu4 hd4 w1 (r1.kept kk (by omega)) (r4.kept kk (by omega)) ((T.kept (unhide K)).kept kk) 3) (fun w1 kk => ivsub1_impl s2 e2 hu2 hd2 s3 e3 hu3 hd3 w1 (r2.kept kk (by omega)) (r3.kept kk (by omega)) ((T.kept (unhide K)).kept kk) 2)).mono (fun e w' h => ivAns_ans (unhide HC) (show (dokB s1 l1 e1 && dokB s4 l4 e4) = true by rw [unhide I1, unhide I4]; rfl) (show (dokB s2 l2 e2 && dokB s3 l3 e3) = true by rw [unhide I2, unhide I3]; rfl) h)
   rw [unhide HCC, unhide HW1, unhide HD1, unhide HQ1, unhide HW2, unhide HD2, unhide HQ2] at mk
   refine (mk).mono ?_
   rintro e w7 h5
   skip
   obtain ⟨q1, y1, M1, q2, y2, M2, vL, vM, mid, rfl, rL, rM, hm1, hm2, k5, hq⟩ := ivAns_open h5
   have HQ := hide hq
   clear hq h5
   replace r1 := r1.kp k5
   replace r2 := r2.kp k5
   replace r3 := r3.kp k5
   replace r4 := r4.kp k5
   replace Rf0 := k5.loose0 (zbl R0) Rf0
   replace Rf1 := k5.loose0 (zbl R1) Rf1
   replace Rf2 := k5.loose0 (zbl R2) Rf2
   replace Rf3 := k5.loose0 (zbl R3) Rf3
   replace Rf4 := k5.loose0 (zbl R4) Rf4
   replace Rf5 := k5.loose0 (zbl R5) Rf5
   replace bp0 := k5.cell0 bp0
   replace bp1 := k5.cell0 bp1
   replace bp2 := k5.cell0 bp2
   replace bp3 := k5.cell0 bp3
   replace bp4 := k5.cell0 bp4
   replace bp5 := k5.cell0 bp5
   replace bq0 := k5.cell0 bq0
   replace bq1 := k5.cell0 bq1
   replace bq2 := k5.cell0 bq2
   replace bq3 := k5.cell0 bq3
   replace bq4 := k5.cell0 bq4
   replace bq5 := k5.cell0 bq5
   replace R0 := k5.cell0 R0
   replace R1 := k5.cell0 R1
   replace R2 := k5.cell0 R2
   replace R3 := k5.cell0 R3
   replace R4 := k5.cell0 R4
   replace R5 := k5.cell0 R5
   replace X_0 := k5.cell0 X_0
   replace X_1 := k5.cell0 X_1
   replace X_2 := k5.cell0 X_2
   replace X_3 := k5.cell0 X_3
   replace X_4 := k5.cell0 X_4
   replace X_5 := k5.cell0 X_5
   replace Y_0 := k5.cell0 Y_0
   replace Y_1 := k5.cell0 Y_1
   replace Y_2 := k5.cell0 Y_2
   replace Y_3 := k5.cell0 Y_3
   replace Y_4 := k5.cell0 Y_4
   replace Y_5 := k5.cell0 Y_5
   replace K := hide ((unhide K).trans k5)
   have z8 := k5.size
   clear k5
   obtain ⟨aL, dL, hv⟩ := Row.form' rL
   subst hv
   obtain ⟨aM, dM, hv⟩ := Row.form' rM
   subst hv
   have RL := hide ((((((rL.set_other (p := ⟨w.heap.size + 2, 0, none⟩) (.inl (by have := unhide S0; dsimp only; omega)) (.bool q1)).set_other (p := ⟨w.heap.size + 2, 1, none⟩) (.inl (by have := unhide S0; dsimp only; omega)) (.slice aL M1.length dL)).set_other (p := ⟨w.heap.size + 2, 2, none⟩) (.inl (by have := unhide S0; dsimp only; omega)) (.int .i64 y1)).set_other (p := ⟨w.heap.size + 2, 3, none⟩) (.inl (by have := unhide S0; dsimp only; omega)) (.bool q2)).set_other (p := ⟨w.heap.size + 2, 4, none⟩) (.inl (by have := unhide S0; dsimp only; omega)) (.slice aM M2.length dM)).set_other (p := ⟨w.heap.size + 2, 5, none⟩) (.inl (by have := unhide S0; dsimp only; omega)) (.int .i64 y2))
   have RM := hide ((((((rM.set_other (p := ⟨w.heap.size + 2, 0, none⟩) (.inl (by have := unhide S0; dsimp only; omega)) (.bool q1)).set_other (p := ⟨w.heap.size + 2, 1, none⟩) (.inl (by have := unhide S0; dsimp only; omega)) (.slice aL M1.length dL)).set_other (p := ⟨w.heap.size + 2, 2, none⟩) (.inl (by have := unhide S0; dsimp only; omega)) (.int .i64 y1)).set_other (p := ⟨w.heap.size + 2, 3, none⟩) (.inl (by have := unhide S0; dsimp only; omega)) (.bool q2)).set_other (p := ⟨w.heap.size + 2, 4, none⟩) (.inl (by have := unhide S0; dsimp only; omega)) (.slice aM M2.length dM)).set_other (p := ⟨w.heap.size + 2, 5, none⟩) (.inl (by have := unhide S0; dsimp only; omega)) (.int .i64 y2))
   have K7 := hide (((((((unhide K).setNew (p := ⟨w.heap.size + 2, 0, none⟩) (by simp) (.bool q1)).setNew (p := ⟨w.heap.size + 2, 1, none⟩) (by simp) (.slice aL M1.length dL)).setNew (p := ⟨w.heap.size + 2, 2, none⟩) (by simp) (.int .i64 y1)).setNew (p := ⟨w.heap.size + 2, 3, none⟩) (by simp) (.bool q2)).setNew (p := ⟨w.heap.size + 2, 4, none⟩) (by simp) (.slice aM M2.length dM)).setNew (p := ⟨w.heap.size + 2, 5, none⟩) (by simp) (.int .i64 y2))
   clear r1 r2 r3 r4 rL rM K
   go_wp2_with fail
   have sS0 := unhide S0
   exact bodyPost_ret (v := .tuple #[.agg #[.bool q1, .slice aL M1.length dL, .int .i64 y1, .bool q2, .slice aM M2.length dM, .int .i64 y2], .bool CC]) (by simp [results, Tryd.results21, go_sem, R0, R1, R2, R3, R4, R5]) rfl (ivAns_shut (unhide HQ) ((unhide RL).wider (by omega) (Nat.le_refl _)) (unhide RM).tight (by omega) (by simp only [size_set]; omega) (unhide K7))

end Go.Proofs.YtbihbloknmjfjaaDoor
