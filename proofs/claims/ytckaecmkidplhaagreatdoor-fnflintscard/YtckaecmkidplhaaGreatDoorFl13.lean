/-
  FlDy, the model's and the program's.
-/
import Derived.Test.YtckaecmkidplhaaGreatDoorBY
import Derived.Deep.RegionHeld3
import Derived.Deep.DeepCutAuto
namespace Go.Proofs.YtckaecmkidplhaaGreatDoor
open Go.RowKit
set_option linter.unusedVariables false
set_option maxRecDepth 8000
set_option linter.unusedSimpArgs false

set_option maxHeartbeats 4000000 in
theorem fldy_impl_num (c : Bool) (hc : c = true) (s : Bool) (m x : Int) (h : flok 1 s m x = true) (h1 : -1074 ≤ x) (h2 : x ≤ 971) (h3 : 1 ≤ m) (h4 : m ≤ 9007199254740991) (w : World) (T : TabB w) :
    Calls Tryz.prog 17 #[flv 1 s m x] w fun e' w' => ∃ v', e' = .returned (.tuple #[.agg #[.bool (ansDS c (fM 1 s m) x), v', .int .i64 (ansDE c (fM 1 s m) x)], .bool (ansDB c (fM 1 s m) x)]) ∧ Row .i64 true w.heap.size w'.heap.size w' v' (ansDL c (fM 1 s m) x) ∧ Kept 0 0 w w' := by
  obtain ⟨GS, hGS⟩ : ∃ y, ansDS (c) (fM 1 s m) (x) = y := ⟨_, rfl⟩
  obtain ⟨GL, hGL⟩ : ∃ y, ansDL (c) (fM 1 s m) (x) = y := ⟨_, rfl⟩
  obtain ⟨GE, hGE⟩ : ∃ y, ansDE (c) (fM 1 s m) (x) = y := ⟨_, rfl⟩
  obtain ⟨GB, hGB⟩ : ∃ y, ansDB (c) (fM 1 s m) (x) = y := ⟨_, rfl⟩
  try rw [hGS]
  try rw [hGL]
  try rw [hGE]
  try rw [hGB]
  have HGS := hide hGS
  have HGL := hide hGL
  have HGE := hide hGE
  have HGB := hide hGB
  clear hGS hGL hGE hGB
  have HC := hide hc
  clear hc
  have HH := hide h
  clear h
  have hm := value_num s m x
  have mv := fun w => value_m s m x h3 h4 w
  obtain ⟨zs, hL⟩ : ∃ L, limbs m.toNat = L := ⟨_, rfl⟩
  have hn : Nrm zs := by rw [← hL]; exact limbs_nrm _
  have hnl : zs.length ≤ 50000 := by
    rw [← hL]
    refine Nat.le_trans ((limbs_length_le _ 4).2 ?_) (by decide)
    have e4 : (65536 : Int) ^ 4 = 18446744073709551616 := by decide
    omega
  have hwv : wval s zs = fM 1 s m := by rw [← hL]; exact limbs_wval s h3
  rw [hL] at mv
  clear hL
  replace mv := hide mv
  have k0 : Kept 0 0 w ((w.alloc (.cells #[.int .i64 1, .bool s, .int .i64 m, .int .i64 x] 25)).alloc (.cells #[.bool false, .slice none 0 0, .int .i64 0] 42)) := (((Kept.refl 0 0 w).alloc (.cells #[.int .i64 1, .bool s, .int .i64 m, .int .i64 x] 25)).alloc (.cells #[.bool false, .slice none 0 0, .int .i64 0] 42))
  have p0 : ((w.alloc (.cells #[.int .i64 1, .bool s, .int .i64 m, .int .i64 x] 25)).alloc (.cells #[.bool false, .slice none 0 0, .int .i64 0] 42)).cell? ⟨w.heap.size, 0, none⟩ = some (.int .i64 1) := old_cell _ (new_cell2 _ _ _ _ _ _ (by simp) rfl)
  have p1 : ((w.alloc (.cells #[.int .i64 1, .bool s, .int .i64 m, .int .i64 x] 25)).alloc (.cells #[.bool false, .slice none 0 0, .int .i64 0] 42)).cell? ⟨w.heap.size, 1, none⟩ = some (.bool s) := old_cell _ (new_cell2 _ _ _ _ _ _ (by simp) rfl)
  have p2 : ((w.alloc (.cells #[.int .i64 1, .bool s, .int .i64 m, .int .i64 x] 25)).alloc (.cells #[.bool false, .slice none 0 0, .int .i64 0] 42)).cell? ⟨w.heap.size, 2, none⟩ = some (.int .i64 m) := old_cell _ (new_cell2 _ _ _ _ _ _ (by simp) rfl)
  have p3 : ((w.alloc (.cells #[.int .i64 1, .bool s, .int .i64 m, .int .i64 x] 25)).alloc (.cells #[.bool false, .slice none 0 0, .int .i64 0] 42)).cell? ⟨w.heap.size, 3, none⟩ = some (.int .i64 x) := old_cell _ (new_cell2 _ _ _ _ _ _ (by simp) rfl)
  have q0 : ((w.alloc (.cells #[.int .i64 1, .bool s, .int .i64 m, .int .i64 x] 25)).alloc (.cells #[.bool false, .slice none 0 0, .int .i64 0] 42)).cell? ⟨w.heap.size + 1, 0, none⟩ = some (.bool false) := new_cell2 _ _ _ _ _ _ (by simp) rfl
  have qf0 : ((w.alloc (.cells #[.int .i64 1, .bool s, .int .i64 m, .int .i64 x] 25)).alloc (.cells #[.bool false, .slice none 0 0, .int .i64 0] 42)).frozen? ⟨w.heap.size + 1, 0, none⟩ = false := new_loose2 _ _ _ _ _ (by simp)
  have q1 : ((w.alloc (.cells #[.int .i64 1, .bool s, .int .i64 m, .int .i64 x] 25)).alloc (.cells #[.bool false, .slice none 0 0, .int .i64 0] 42)).cell? ⟨w.heap.size + 1, 1, none⟩ = some (.slice none 0 0) := new_cell2 _ _ _ _ _ _ (by simp) rfl
  have qf1 : ((w.alloc (.cells #[.int .i64 1, .bool s, .int .i64 m, .int .i64 x] 25)).alloc (.cells #[.bool false, .slice none 0 0, .int .i64 0] 42)).frozen? ⟨w.heap.size + 1, 1, none⟩ = false := new_loose2 _ _ _ _ _ (by simp)
  have q2 : ((w.alloc (.cells #[.int .i64 1, .bool s, .int .i64 m, .int .i64 x] 25)).alloc (.cells #[.bool false, .slice none 0 0, .int .i64 0] 42)).cell? ⟨w.heap.size + 1, 2, none⟩ = some (.int .i64 0) := new_cell2 _ _ _ _ _ _ (by simp) rfl
  have qf2 : ((w.alloc (.cells #[.int .i64 1, .bool s, .int .i64 m, .int .i64 x] 25)).alloc (.cells #[.bool false, .slice none 0 0, .int .i64 0] 42)).frozen? ⟨w.heap.size + 1, 2, none⟩ = false := new_loose2 _ _ _ _ _ (by simp)
  have s0 : ((w.alloc (.cells #[.int .i64 1, .bool s, .int .i64 m, .int .i64 x] 25)).alloc (.cells #[.bool false, .slice none 0 0, .int .i64 0] 42)).heap.size = w.heap.size + 2 := by simp
  have K := hide (k0)
  clear k0
  have S0 := hide s0
  clear s0
  go_enter Tryz.func17, Tryz.ntmps17
  go_wp2_with fail
  generalize ((w.alloc (.cells #[.int .i64 1, .bool s, .int .i64 m, .int .i64 x] 25)).alloc (.cells #[.bool false, .slice none 0 0, .int .i64 0] 42)) = W at *
  refine (finiteOf_num s m x (unhide HH) _).mono ?_
  rintro e w1 ⟨rfl, k1⟩
  replace qf0 := k1.loose0 (World.block_lt_of_cell? _ _ q0) qf0
  replace qf1 := k1.loose0 (World.block_lt_of_cell? _ _ q1) qf1
  replace qf2 := k1.loose0 (World.block_lt_of_cell? _ _ q2) qf2
  replace p0 := k1.cell0 p0
  replace p1 := k1.cell0 p1
  replace p2 := k1.cell0 p2
  replace p3 := k1.cell0 p3
  replace q0 := k1.cell0 q0
  replace q1 := k1.cell0 q1
  replace q2 := k1.cell0 q2
  replace K := hide ((unhide K).trans k1)
  have z2 := k1.size
  clear k1
  go_wp2_with fail
  refine (unhide mv _).mono ?_
  rintro e w3 ⟨v3, rfl, o3, k3⟩
  replace qf0 := k3.loose0 (World.block_lt_of_cell? _ _ q0) qf0
  replace qf1 := k3.loose0 (World.block_lt_of_cell? _ _ q1) qf1
  replace qf2 := k3.loose0 (World.block_lt_of_cell? _ _ q2) qf2
  replace p0 := k3.cell0 p0
  replace p1 := k3.cell0 p1
  replace p2 := k3.cell0 p2
  replace p3 := k3.cell0 p3
  replace q0 := k3.cell0 q0
  replace q1 := k3.cell0 q1
  replace q2 := k3.cell0 q2
  replace K := hide ((unhide K).trans k3)
  have z4 := k3.size
  clear k3
  have l3 := o3.lt
  obtain ⟨nd, dd, ee⟩ := new_dya s x 93 o3
  have kn := (Kept.refl 0 0 w3).alloc (.cells #[v3, .bool s, .int .i64 x] 93)
  obtain ⟨a3, c3, hv⟩ := own_slice o3
  subst hv
  replace qf0 := kn.loose0 (World.block_lt_of_cell? _ _ q0) qf0
  replace qf1 := kn.loose0 (World.block_lt_of_cell? _ _ q1) qf1
  replace qf2 := kn.loose0 (World.block_lt_of_cell? _ _ q2) qf2
  replace p0 := kn.cell0 p0
  replace p1 := kn.cell0 p1
  replace p2 := kn.cell0 p2
  replace p3 := kn.cell0 p3
  replace q0 := kn.cell0 q0
  replace q1 := kn.cell0 q1
  replace q2 := kn.cell0 q2
  replace K := hide ((unhide K).trans kn)
  have z5 := kn.size
  clear kn o3
  skip
  go_wp2_with fail
  generalize w3.alloc (.cells #[.slice a3 zs.length c3, .bool s, .int .i64 x] 93) = W9 at *
  refine (toldDyadic_impl (fM 1 s m) hwv _ nd dd ee hn (by omega) (by omega) (by omega) (T.kept (unhide K))).mono ?_
  rintro e w6 ⟨v7, rfl, r7, m7⟩
  have hS : ∀ i, Own1 w3.heap.size (.slice a3 zs.length c3) i → w.heap.size + 2 ≤ i := fun i e => e.elim (fun e => by have := unhide S0; omega) (fun e => by have := (l3 _ e).1; have := unhide S0; omega)
  have nS : ¬ Own1 w3.heap.size (.slice a3 zs.length c3) (w.heap.size + 1) := fun e => by have := hS _ e; omega
  replace qf0 := m7.loose (a := ⟨w.heap.size + 1, 0, none⟩) nS (World.block_lt_of_cell? _ _ q0) qf0
  replace qf1 := m7.loose (a := ⟨w.heap.size + 1, 1, none⟩) nS (World.block_lt_of_cell? _ _ q1) qf1
  replace qf2 := m7.loose (a := ⟨w.heap.size + 1, 2, none⟩) nS (World.block_lt_of_cell? _ _ q2) qf2
  replace q0 := m7.cell (a := ⟨w.heap.size + 1, 0, none⟩) nS q0
  replace q1 := m7.cell (a := ⟨w.heap.size + 1, 1, none⟩) nS q1
  replace q2 := m7.cell (a := ⟨w.heap.size + 1, 2, none⟩) nS q2
  replace K := hide ((unhide K).mod m7 (fun i e => by have := hS i e; omega))
  have z7 := m7.size
  have j1 := unhide HGS
  have j2 := unhide HGL
  have j3 := unhide HGE
  have j4 := unhide HGB
  rw [unhide HC] at j1 j2 j3 j4
  rw [j1, j3, j4]
  rw [j2] at r7
  clear j1 j2 j3 j4 m7 hS nS nd dd ee hn hnl hwv mv hm
  obtain ⟨a7, c7, hv⟩ := Row.form' r7
  subst hv
  have R := hide ((((r7.set_other (p := ⟨w.heap.size + 1, 0, none⟩) (.inl (by have := unhide S0; dsimp only; omega)) (.bool GS)).set_other (p := ⟨w.heap.size + 1, 1, none⟩) (.inl (by have := unhide S0; dsimp only; omega)) (.slice a7 GL.length c7)).set_other (p := ⟨w.heap.size + 1, 2, none⟩) (.inl (by have := unhide S0; dsimp only; omega)) (.int .i64 GE)).tight.wider (lo' := w.heap.size) (by have := unhide S0; omega) (Nat.le_refl _))
  have K7 := hide ((((unhide K).setNew (p := ⟨w.heap.size + 1, 0, none⟩) (by simp) (.bool GS)).setNew (p := ⟨w.heap.size + 1, 1, none⟩) (by simp) (.slice a7 GL.length c7)).setNew (p := ⟨w.heap.size + 1, 2, none⟩) (by simp) (.int .i64 GE))
  clear r7 K 
  go_wp2_with fail
  exact bodyPost_ret (v := .tuple #[.agg #[.bool GS, .slice a7 GL.length c7, .int .i64 GE], .bool GB]) (by simp [results, Tryz.results17, go_sem, q0, q1, q2]) rfl ⟨_, rfl, unhide R, unhide K7⟩

set_option maxHeartbeats 4000000 in
theorem fldy_impl_nought (c : Bool) (hc : c = true) (s : Bool) (h : flok 0 s 0 0 = true) (w : World) (T : TabB w) :
    Calls Tryz.prog 17 #[flv 0 s 0 0] w fun e' w' => ∃ v', e' = .returned (.tuple #[.agg #[.bool (ansDS c (fM 0 s 0) 0), v', .int .i64 (ansDE c (fM 0 s 0) 0)], .bool (ansDB c (fM 0 s 0) 0)]) ∧ Row .i64 true w.heap.size w'.heap.size w' v' (ansDL c (fM 0 s 0) 0) ∧ Kept 0 0 w w' := by
  obtain ⟨GS, hGS⟩ : ∃ y, ansDS (c) (fM 0 s 0) (0) = y := ⟨_, rfl⟩
  obtain ⟨GL, hGL⟩ : ∃ y, ansDL (c) (fM 0 s 0) (0) = y := ⟨_, rfl⟩
  obtain ⟨GE, hGE⟩ : ∃ y, ansDE (c) (fM 0 s 0) (0) = y := ⟨_, rfl⟩
  obtain ⟨GB, hGB⟩ : ∃ y, ansDB (c) (fM 0 s 0) (0) = y := ⟨_, rfl⟩
  try rw [hGS]
  try rw [hGL]
  try rw [hGE]
  try rw [hGB]
  have HGS := hide hGS
  have HGL := hide hGL
  have HGE := hide hGE
  have HGB := hide hGB
  clear hGS hGL hGE hGB
  have HC := hide hc
  clear hc
  have HH := hide h
  clear h
  have hm := value_nought s 0 0
  have mv := fun w => value_n s w
  obtain ⟨zs, hL⟩ : ∃ L : List Int, [] = L := ⟨_, rfl⟩
  have hn : Nrm zs := by rw [← hL, ← limbs_zero]; exact limbs_nrm 0
  have hnl : zs.length ≤ 50000 := by rw [← hL]; decide
  have hwv : wval s zs = fM 0 s 0 := by rw [← hL, fM_zero (by decide)]; cases s <;> rfl
  rw [hL] at mv
  clear hL
  replace mv := hide mv
  have k0 : Kept 0 0 w ((w.alloc (.cells #[.int .i64 0, .bool s, .int .i64 0, .int .i64 0] 25)).alloc (.cells #[.bool false, .slice none 0 0, .int .i64 0] 42)) := (((Kept.refl 0 0 w).alloc (.cells #[.int .i64 0, .bool s, .int .i64 0, .int .i64 0] 25)).alloc (.cells #[.bool false, .slice none 0 0, .int .i64 0] 42))
  have p0 : ((w.alloc (.cells #[.int .i64 0, .bool s, .int .i64 0, .int .i64 0] 25)).alloc (.cells #[.bool false, .slice none 0 0, .int .i64 0] 42)).cell? ⟨w.heap.size, 0, none⟩ = some (.int .i64 0) := old_cell _ (new_cell2 _ _ _ _ _ _ (by simp) rfl)
  have p1 : ((w.alloc (.cells #[.int .i64 0, .bool s, .int .i64 0, .int .i64 0] 25)).alloc (.cells #[.bool false, .slice none 0 0, .int .i64 0] 42)).cell? ⟨w.heap.size, 1, none⟩ = some (.bool s) := old_cell _ (new_cell2 _ _ _ _ _ _ (by simp) rfl)
  have p2 : ((w.alloc (.cells #[.int .i64 0, .bool s, .int .i64 0, .int .i64 0] 25)).alloc (.cells #[.bool false, .slice none 0 0, .int .i64 0] 42)).cell? ⟨w.heap.size, 2, none⟩ = some (.int .i64 0) := old_cell _ (new_cell2 _ _ _ _ _ _ (by simp) rfl)
  have p3 : ((w.alloc (.cells #[.int .i64 0, .bool s, .int .i64 0, .int .i64 0] 25)).alloc (.cells #[.bool false, .slice none 0 0, .int .i64 0] 42)).cell? ⟨w.heap.size, 3, none⟩ = some (.int .i64 0) := old_cell _ (new_cell2 _ _ _ _ _ _ (by simp) rfl)
  have q0 : ((w.alloc (.cells #[.int .i64 0, .bool s, .int .i64 0, .int .i64 0] 25)).alloc (.cells #[.bool false, .slice none 0 0, .int .i64 0] 42)).cell? ⟨w.heap.size + 1, 0, none⟩ = some (.bool false) := new_cell2 _ _ _ _ _ _ (by simp) rfl
  have qf0 : ((w.alloc (.cells #[.int .i64 0, .bool s, .int .i64 0, .int .i64 0] 25)).alloc (.cells #[.bool false, .slice none 0 0, .int .i64 0] 42)).frozen? ⟨w.heap.size + 1, 0, none⟩ = false := new_loose2 _ _ _ _ _ (by simp)
  have q1 : ((w.alloc (.cells #[.int .i64 0, .bool s, .int .i64 0, .int .i64 0] 25)).alloc (.cells #[.bool false, .slice none 0 0, .int .i64 0] 42)).cell? ⟨w.heap.size + 1, 1, none⟩ = some (.slice none 0 0) := new_cell2 _ _ _ _ _ _ (by simp) rfl
  have qf1 : ((w.alloc (.cells #[.int .i64 0, .bool s, .int .i64 0, .int .i64 0] 25)).alloc (.cells #[.bool false, .slice none 0 0, .int .i64 0] 42)).frozen? ⟨w.heap.size + 1, 1, none⟩ = false := new_loose2 _ _ _ _ _ (by simp)
  have q2 : ((w.alloc (.cells #[.int .i64 0, .bool s, .int .i64 0, .int .i64 0] 25)).alloc (.cells #[.bool false, .slice none 0 0, .int .i64 0] 42)).cell? ⟨w.heap.size + 1, 2, none⟩ = some (.int .i64 0) := new_cell2 _ _ _ _ _ _ (by simp) rfl
  have qf2 : ((w.alloc (.cells #[.int .i64 0, .bool s, .int .i64 0, .int .i64 0] 25)).alloc (.cells #[.bool false, .slice none 0 0, .int .i64 0] 42)).frozen? ⟨w.heap.size + 1, 2, none⟩ = false := new_loose2 _ _ _ _ _ (by simp)
  have s0 : ((w.alloc (.cells #[.int .i64 0, .bool s, .int .i64 0, .int .i64 0] 25)).alloc (.cells #[.bool false, .slice none 0 0, .int .i64 0] 42)).heap.size = w.heap.size + 2 := by simp
  have K := hide (k0)
  clear k0
  have S0 := hide s0
  clear s0
  go_enter Tryz.func17, Tryz.ntmps17
  go_wp2_with fail
  generalize ((w.alloc (.cells #[.int .i64 0, .bool s, .int .i64 0, .int .i64 0] 25)).alloc (.cells #[.bool false, .slice none 0 0, .int .i64 0] 42)) = W at *
  refine (finiteOf_nought s (unhide HH) _).mono ?_
  rintro e w1 ⟨rfl, k1⟩
  replace qf0 := k1.loose0 (World.block_lt_of_cell? _ _ q0) qf0
  replace qf1 := k1.loose0 (World.block_lt_of_cell? _ _ q1) qf1
  replace qf2 := k1.loose0 (World.block_lt_of_cell? _ _ q2) qf2
  replace p0 := k1.cell0 p0
  replace p1 := k1.cell0 p1
  replace p2 := k1.cell0 p2
  replace p3 := k1.cell0 p3
  replace q0 := k1.cell0 q0
  replace q1 := k1.cell0 q1
  replace q2 := k1.cell0 q2
  replace K := hide ((unhide K).trans k1)
  have z2 := k1.size
  clear k1
  go_wp2_with fail
  refine (unhide mv _).mono ?_
  rintro e w3 ⟨v3, rfl, o3, k3⟩
  replace qf0 := k3.loose0 (World.block_lt_of_cell? _ _ q0) qf0
  replace qf1 := k3.loose0 (World.block_lt_of_cell? _ _ q1) qf1
  replace qf2 := k3.loose0 (World.block_lt_of_cell? _ _ q2) qf2
  replace p0 := k3.cell0 p0
  replace p1 := k3.cell0 p1
  replace p2 := k3.cell0 p2
  replace p3 := k3.cell0 p3
  replace q0 := k3.cell0 q0
  replace q1 := k3.cell0 q1
  replace q2 := k3.cell0 q2
  replace K := hide ((unhide K).trans k3)
  have z4 := k3.size
  clear k3
  have l3 := o3.lt
  obtain ⟨nd, dd, ee⟩ := new_dya s 0 93 o3
  have kn := (Kept.refl 0 0 w3).alloc (.cells #[v3, .bool s, .int .i64 0] 93)
  obtain ⟨a3, c3, hv⟩ := own_slice o3
  subst hv
  replace qf0 := kn.loose0 (World.block_lt_of_cell? _ _ q0) qf0
  replace qf1 := kn.loose0 (World.block_lt_of_cell? _ _ q1) qf1
  replace qf2 := kn.loose0 (World.block_lt_of_cell? _ _ q2) qf2
  replace p0 := kn.cell0 p0
  replace p1 := kn.cell0 p1
  replace p2 := kn.cell0 p2
  replace p3 := kn.cell0 p3
  replace q0 := kn.cell0 q0
  replace q1 := kn.cell0 q1
  replace q2 := kn.cell0 q2
  replace K := hide ((unhide K).trans kn)
  have z5 := kn.size
  clear kn o3
  skip
  go_wp2_with fail
  generalize w3.alloc (.cells #[.slice a3 zs.length c3, .bool s, .int .i64 0] 93) = W9 at *
  refine (toldDyadic_impl (fM 0 s 0) hwv _ nd dd ee hn (by omega) (by omega) (by omega) (T.kept (unhide K))).mono ?_
  rintro e w6 ⟨v7, rfl, r7, m7⟩
  have hS : ∀ i, Own1 w3.heap.size (.slice a3 zs.length c3) i → w.heap.size + 2 ≤ i := fun i e => e.elim (fun e => by have := unhide S0; omega) (fun e => by have := (l3 _ e).1; have := unhide S0; omega)
  have nS : ¬ Own1 w3.heap.size (.slice a3 zs.length c3) (w.heap.size + 1) := fun e => by have := hS _ e; omega
  replace qf0 := m7.loose (a := ⟨w.heap.size + 1, 0, none⟩) nS (World.block_lt_of_cell? _ _ q0) qf0
  replace qf1 := m7.loose (a := ⟨w.heap.size + 1, 1, none⟩) nS (World.block_lt_of_cell? _ _ q1) qf1
  replace qf2 := m7.loose (a := ⟨w.heap.size + 1, 2, none⟩) nS (World.block_lt_of_cell? _ _ q2) qf2
  replace q0 := m7.cell (a := ⟨w.heap.size + 1, 0, none⟩) nS q0
  replace q1 := m7.cell (a := ⟨w.heap.size + 1, 1, none⟩) nS q1
  replace q2 := m7.cell (a := ⟨w.heap.size + 1, 2, none⟩) nS q2
  replace K := hide ((unhide K).mod m7 (fun i e => by have := hS i e; omega))
  have z7 := m7.size
  have j1 := unhide HGS
  have j2 := unhide HGL
  have j3 := unhide HGE
  have j4 := unhide HGB
  rw [unhide HC] at j1 j2 j3 j4
  rw [j1, j3, j4]
  rw [j2] at r7
  clear j1 j2 j3 j4 m7 hS nS nd dd ee hn hnl hwv mv hm
  obtain ⟨a7, c7, hv⟩ := Row.form' r7
  subst hv
  have R := hide ((((r7.set_other (p := ⟨w.heap.size + 1, 0, none⟩) (.inl (by have := unhide S0; dsimp only; omega)) (.bool GS)).set_other (p := ⟨w.heap.size + 1, 1, none⟩) (.inl (by have := unhide S0; dsimp only; omega)) (.slice a7 GL.length c7)).set_other (p := ⟨w.heap.size + 1, 2, none⟩) (.inl (by have := unhide S0; dsimp only; omega)) (.int .i64 GE)).tight.wider (lo' := w.heap.size) (by have := unhide S0; omega) (Nat.le_refl _))
  have K7 := hide ((((unhide K).setNew (p := ⟨w.heap.size + 1, 0, none⟩) (by simp) (.bool GS)).setNew (p := ⟨w.heap.size + 1, 1, none⟩) (by simp) (.slice a7 GL.length c7)).setNew (p := ⟨w.heap.size + 1, 2, none⟩) (by simp) (.int .i64 GE))
  clear r7 K 
  go_wp2_with fail
  exact bodyPost_ret (v := .tuple #[.agg #[.bool GS, .slice a7 GL.length c7, .int .i64 GE], .bool GB]) (by simp [results, Tryz.results17, go_sem, q0, q1, q2]) rfl ⟨_, rfl, unhide R, unhide K7⟩

set_option maxHeartbeats 2000000 in
theorem fldy_impl_no (k : Int) (n : Bool) (m e : Int) (h : flok k n m e = false) (w : World) :
    Calls Tryz.prog 17 #[flv k n m e] w fun e' w' => ∃ v', e' = .returned (.tuple #[.agg #[.bool false, v', .int .i64 0], .bool false]) ∧ Row .i64 true w.heap.size w'.heap.size w' v' [] ∧ Kept 0 0 w w' := by
  go_enter Tryz.func17, Tryz.ntmps17
  go_wp2_with (first | (go_at_call 43; refine (flok_impl_eq h _).mono ?_; rintro r w1 ⟨rfl, rfl⟩) | go_in)
  exact bodyPost_ret (v := .tuple #[.agg #[.bool false, .slice none 0 0, .int .i64 0], .bool false]) (by simp [results, Tryz.results17, go_sem]) rfl ⟨_, rfl, Row.nil _ _ _ _ _, by repeat first | exact Kept.refl 0 0 _ | apply Kept.alloc⟩

set_option maxHeartbeats 2000000 in
theorem fldy_impl_inf (n : Bool) (h : flok 2 n 0 0 = true) (w : World) :
    Calls Tryz.prog 17 #[flv 2 n 0 0] w fun e' w' => ∃ v', e' = .returned (.tuple #[.agg #[.bool false, v', .int .i64 0], .bool false]) ∧ Row .i64 true w.heap.size w'.heap.size w' v' [] ∧ Kept 0 0 w w' := by
  have a0 := fin_inf n 0 0
  go_enter Tryz.func17, Tryz.ntmps17
  go_wp2_with (first | (go_at_call 43; refine (flok_impl_eq h _).mono ?_; rintro r w1 ⟨rfl, rfl⟩) | go_in)
  exact bodyPost_ret (v := .tuple #[.agg #[.bool false, .slice none 0 0, .int .i64 0], .bool false]) (by simp [results, Tryz.results17, go_sem]) rfl ⟨_, rfl, Row.nil _ _ _ _ _, by repeat first | exact Kept.refl 0 0 _ | apply Kept.alloc⟩

set_option maxHeartbeats 2000000 in
theorem fldy_impl_nan (h : flok 3 false 0 0 = true) (w : World) :
    Calls Tryz.prog 17 #[flv 3 false 0 0] w fun e' w' => ∃ v', e' = .returned (.tuple #[.agg #[.bool false, v', .int .i64 0], .bool false]) ∧ Row .i64 true w.heap.size w'.heap.size w' v' [] ∧ Kept 0 0 w w' := by
  have a0 := fin_nan false 0 0
  go_enter Tryz.func17, Tryz.ntmps17
  go_wp2_with (first | (go_at_call 43; refine (flok_impl_eq h _).mono ?_; rintro r w1 ⟨rfl, rfl⟩) | go_in)
  exact bodyPost_ret (v := .tuple #[.agg #[.bool false, .slice none 0 0, .int .i64 0], .bool false]) (by simp [results, Tryz.results17, go_sem]) rfl ⟨_, rfl, Row.nil _ _ _ _ _, by repeat first | exact Kept.refl 0 0 _ | apply Kept.alloc⟩

/-- Whether it is a number. -/
def fdyB (k : Int) (n : Bool) (m e : Int) : Bool := flok k n m e && (k == 0 || k == 1)
theorem fdyB_no {k : Int} {n : Bool} {m e : Int} (h : flok k n m e = false) : fdyB k n m e = false := by unfold fdyB; rw [h]; rfl
theorem ans_yes {c : Bool} {m x : Int} (hc : c = true) (h1 : m.natAbs < 2 ^ 64) (h2 : -2900 ≤ x) (h3 : x ≤ 2900) : ansDS c m x = wsg m ∧ ansDL c m x = dlm m ∧ ansDE c m x = dex m x ∧ ansDB c m x = true := by
  subst hc
  have hb := ok_ans m x h1 h2 h3
  obtain ⟨e1, e2, e3⟩ := ansD_yes hb
  exact ⟨e1, e2, e3, hb⟩

theorem fldy_impl (k : Int) (n : Bool) (m e : Int) (w : World) (T : TabB w) :
    Calls Tryz.prog 17 #[flv k n m e] w fun e' w' => ∃ v', e' = .returned (.tuple #[.agg #[.bool (ansDS (fdyB k n m e) (fM k n m) e), v', .int .i64 (ansDE (fdyB k n m e) (fM k n m) e)], .bool (ansDB (fdyB k n m e) (fM k n m) e)]) ∧ Row .i64 true w.heap.size w'.heap.size w' v' (ansDL (fdyB k n m e) (fM k n m) e) ∧ Kept 0 0 w w' := by
  have bad : fdyB k n m e = false → ansDS (fdyB k n m e) (fM k n m) e = false ∧ ansDL (fdyB k n m e) (fM k n m) e = [] ∧ ansDE (fdyB k n m e) (fM k n m) e = 0 ∧ ansDB (fdyB k n m e) (fM k n m) e = false := fun q => by
    obtain ⟨a, b, c⟩ := ansD_no (ansDB_no q : ansDB (fdyB k n m e) (fM k n m) e = false)
    exact ⟨a, b, c, ansDB_no q⟩
  by_cases h : flok k n m e = true
  · rcases flok_ways h with ⟨rfl, h1, h2, h3, h4, h5⟩ | ⟨rfl, rfl, rfl⟩ | ⟨rfl, rfl, rfl⟩ | ⟨rfl, rfl, rfl, rfl⟩
    · clear bad
      exact fldy_impl_num _ (by unfold fdyB; rw [h]; rfl) n m e h h1 h2 h3 h4 w T
    · clear bad
      exact fldy_impl_nought _ (by unfold fdyB; rw [h]; rfl) n h w T
    · obtain ⟨e1, e2, e3, e4⟩ := bad (by unfold fdyB; simp)
      rw [e1, e2, e3, e4]
      exact fldy_impl_inf n h w
    · obtain ⟨e1, e2, e3, e4⟩ := bad (by unfold fdyB; simp)
      rw [e1, e2, e3, e4]
      exact fldy_impl_nan h w
  · have h' : flok k n m e = false := by simpa using h
    obtain ⟨e1, e2, e3, e4⟩ := bad (fdyB_no h')
    rw [e1, e2, e3, e4]
    exact fldy_impl_no k n m e h' w

end Go.Proofs.YtckaecmkidplhaaGreatDoor

