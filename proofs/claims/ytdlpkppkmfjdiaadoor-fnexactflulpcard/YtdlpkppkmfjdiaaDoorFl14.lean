/-
  FlUlp, the model's and the program's.
-/
import Derived.Test.YtdlpkppkmfjdiaaDoorFl13
import Derived.Deep.RegionHeld3
import Derived.Deep.DeepCutAuto
namespace Go.Proofs.YtdlpkppkmfjdiaaDoor
open Go.RowKit
set_option linter.unusedVariables false
set_option maxRecDepth 8000
set_option linter.unusedSimpArgs false

def fstep (k e : Int) : Int := if k = 1 then e else -1074
theorem one_form (x : Int) : dlm 1 = wlm 1 ∧ dex 1 x = x := by
  have h : tz (1 : Int).natAbs = 0 := tz_odd rfl
  constructor
  · unfold dlm wlm; rw [h]; rfl
  · unfold dex; rw [if_neg (by decide), h]; omega

set_option maxHeartbeats 2000000 in
theorem step_num_impl (s : Bool) (m x : Int) (w : World) :
    Calls Tryd.prog 192 #[.agg #[.bool s, .int .i64 m, .int .i64 x]] w fun e' w' => e' = .returned (.int .i64 x) ∧ Kept 0 0 w w' := by
  go_enter Tryd.func192, Tryd.ntmps192
  go_wp2
  go_ret
  exact ⟨rfl, by repeat first | exact Kept.refl 0 0 _ | apply Kept.alloc⟩

set_option maxHeartbeats 4000000 in
theorem flulp_impl_num (c : Bool) (hc : c = true) (s : Bool) (m x : Int) (h : flok 1 s m x = true) (h1 : -1074 ≤ x) (h2 : x ≤ 971) (w : World) (T : TabB w) :
    Calls Tryd.prog 53 #[flv 1 s m x] w fun e' w' => ∃ v', e' = .returned (.tuple #[.agg #[.bool (ansDS c (1) x), v', .int .i64 (ansDE c (1) x)], .bool (ansDB c (1) x)]) ∧ Row .i64 true w.heap.size w'.heap.size w' v' (ansDL c (1) x) ∧ Kept 0 0 w w' := by
  obtain ⟨GS, hGS⟩ : ∃ y, ansDS (c) (1) (x) = y := ⟨_, rfl⟩
  obtain ⟨GL, hGL⟩ : ∃ y, ansDL (c) (1) (x) = y := ⟨_, rfl⟩
  obtain ⟨GE, hGE⟩ : ∃ y, ansDE (c) (1) (x) = y := ⟨_, rfl⟩
  obtain ⟨GB, hGB⟩ : ∃ y, ansDB (c) (1) (x) = y := ⟨_, rfl⟩
  try rw [hGS]
  try rw [hGL]
  try rw [hGE]
  try rw [hGB]
  have HGS := hide hGS
  have HGL := hide hGL
  have HGE := hide hGE
  have HGB := hide hGB
  clear hGS hGL hGE hGB
  have HC := hide hc
  clear hc
  have HH := hide h
  clear h
  have hm := step_num s m x
  have mv := fun w => signedOfInt_impl 1 (by omega) (by omega) w
  obtain ⟨zs, hL⟩ : ∃ L, wlm 1 = L := ⟨_, rfl⟩
  obtain ⟨SG, hSG⟩ : ∃ L, wsg 1 = L := ⟨_, rfl⟩
  have hn : Nrm zs := by rw [← hL]; exact limbs_nrm _
  have hnl : zs.length ≤ 50000 := by rw [← hL]; decide +kernel
  have hwv : wval SG zs = 1 := by rw [← hL, ← hSG]; exact wval_int 1
  rw [hL, hSG] at mv
  clear hL hSG
  replace mv := hide mv
  have k0 : Kept 0 0 w ((w.alloc (.cells #[.int .i64 1, .bool s, .int .i64 m, .int .i64 x] 69)).alloc (.cells #[.bool false, .slice none 0 0, .int .i64 0] 44)) := (((Kept.refl 0 0 w).alloc (.cells #[.int .i64 1, .bool s, .int .i64 m, .int .i64 x] 69)).alloc (.cells #[.bool false, .slice none 0 0, .int .i64 0] 44))
  have p0 : ((w.alloc (.cells #[.int .i64 1, .bool s, .int .i64 m, .int .i64 x] 69)).alloc (.cells #[.bool false, .slice none 0 0, .int .i64 0] 44)).cell? ⟨w.heap.size, 0, none⟩ = some (.int .i64 1) := old_cell _ (new_cell2 _ _ _ _ _ _ (by simp) rfl)
  have p1 : ((w.alloc (.cells #[.int .i64 1, .bool s, .int .i64 m, .int .i64 x] 69)).alloc (.cells #[.bool false, .slice none 0 0, .int .i64 0] 44)).cell? ⟨w.heap.size, 1, none⟩ = some (.bool s) := old_cell _ (new_cell2 _ _ _ _ _ _ (by simp) rfl)
  have p2 : ((w.alloc (.cells #[.int .i64 1, .bool s, .int .i64 m, .int .i64 x] 69)).alloc (.cells #[.bool false, .slice none 0 0, .int .i64 0] 44)).cell? ⟨w.heap.size, 2, none⟩ = some (.int .i64 m) := old_cell _ (new_cell2 _ _ _ _ _ _ (by simp) rfl)
  have p3 : ((w.alloc (.cells #[.int .i64 1, .bool s, .int .i64 m, .int .i64 x] 69)).alloc (.cells #[.bool false, .slice none 0 0, .int .i64 0] 44)).cell? ⟨w.heap.size, 3, none⟩ = some (.int .i64 x) := old_cell _ (new_cell2 _ _ _ _ _ _ (by simp) rfl)
  have q0 : ((w.alloc (.cells #[.int .i64 1, .bool s, .int .i64 m, .int .i64 x] 69)).alloc (.cells #[.bool false, .slice none 0 0, .int .i64 0] 44)).cell? ⟨w.heap.size + 1, 0, none⟩ = some (.bool false) := new_cell2 _ _ _ _ _ _ (by simp) rfl
  have qf0 : ((w.alloc (.cells #[.int .i64 1, .bool s, .int .i64 m, .int .i64 x] 69)).alloc (.cells #[.bool false, .slice none 0 0, .int .i64 0] 44)).frozen? ⟨w.heap.size + 1, 0, none⟩ = false := new_loose2 _ _ _ _ _ (by simp)
  have q1 : ((w.alloc (.cells #[.int .i64 1, .bool s, .int .i64 m, .int .i64 x] 69)).alloc (.cells #[.bool false, .slice none 0 0, .int .i64 0] 44)).cell? ⟨w.heap.size + 1, 1, none⟩ = some (.slice none 0 0) := new_cell2 _ _ _ _ _ _ (by simp) rfl
  have qf1 : ((w.alloc (.cells #[.int .i64 1, .bool s, .int .i64 m, .int .i64 x] 69)).alloc (.cells #[.bool false, .slice none 0 0, .int .i64 0] 44)).frozen? ⟨w.heap.size + 1, 1, none⟩ = false := new_loose2 _ _ _ _ _ (by simp)
  have q2 : ((w.alloc (.cells #[.int .i64 1, .bool s, .int .i64 m, .int .i64 x] 69)).alloc (.cells #[.bool false, .slice none 0 0, .int .i64 0] 44)).cell? ⟨w.heap.size + 1, 2, none⟩ = some (.int .i64 0) := new_cell2 _ _ _ _ _ _ (by simp) rfl
  have qf2 : ((w.alloc (.cells #[.int .i64 1, .bool s, .int .i64 m, .int .i64 x] 69)).alloc (.cells #[.bool false, .slice none 0 0, .int .i64 0] 44)).frozen? ⟨w.heap.size + 1, 2, none⟩ = false := new_loose2 _ _ _ _ _ (by simp)
  have s0 : ((w.alloc (.cells #[.int .i64 1, .bool s, .int .i64 m, .int .i64 x] 69)).alloc (.cells #[.bool false, .slice none 0 0, .int .i64 0] 44)).heap.size = w.heap.size + 2 := by simp
  have K := hide (k0)
  clear k0
  have S0 := hide s0
  clear s0
  go_enter Tryd.func53, Tryd.ntmps53
  go_wp2_with fail
  generalize ((w.alloc (.cells #[.int .i64 1, .bool s, .int .i64 m, .int .i64 x] 69)).alloc (.cells #[.bool false, .slice none 0 0, .int .i64 0] 44)) = W at *
  refine (finiteOf_num s m x (unhide HH) _).mono ?_
  rintro e w1 ⟨rfl, k1⟩
  replace qf0 := k1.loose0 (World.block_lt_of_cell? _ _ q0) qf0
  replace qf1 := k1.loose0 (World.block_lt_of_cell? _ _ q1) qf1
  replace qf2 := k1.loose0 (World.block_lt_of_cell? _ _ q2) qf2
  replace p0 := k1.cell0 p0
  replace p1 := k1.cell0 p1
  replace p2 := k1.cell0 p2
  replace p3 := k1.cell0 p3
  replace q0 := k1.cell0 q0
  replace q1 := k1.cell0 q1
  replace q2 := k1.cell0 q2
  replace K := hide ((unhide K).trans k1)
  have z2 := k1.size
  clear k1
  go_wp2_with fail
  refine (unhide mv _).mono ?_
  rintro e w3 ⟨v3, rfl, o3, k3⟩
  replace qf0 := k3.loose0 (World.block_lt_of_cell? _ _ q0) qf0
  replace qf1 := k3.loose0 (World.block_lt_of_cell? _ _ q1) qf1
  replace qf2 := k3.loose0 (World.block_lt_of_cell? _ _ q2) qf2
  replace p0 := k3.cell0 p0
  replace p1 := k3.cell0 p1
  replace p2 := k3.cell0 p2
  replace p3 := k3.cell0 p3
  replace q0 := k3.cell0 q0
  replace q1 := k3.cell0 q1
  replace q2 := k3.cell0 q2
  replace K := hide ((unhide K).trans k3)
  have z4 := k3.size
  clear k3
  go_wp2_with fail
  refine (step_num_impl s m x _).mono ?_
  rintro e w5 ⟨rfl, k5⟩
  replace o3 := own_kept o3 k5
  replace qf0 := k5.loose0 (World.block_lt_of_cell? _ _ q0) qf0
  replace qf1 := k5.loose0 (World.block_lt_of_cell? _ _ q1) qf1
  replace qf2 := k5.loose0 (World.block_lt_of_cell? _ _ q2) qf2
  replace p0 := k5.cell0 p0
  replace p1 := k5.cell0 p1
  replace p2 := k5.cell0 p2
  replace p3 := k5.cell0 p3
  replace q0 := k5.cell0 q0
  replace q1 := k5.cell0 q1
  replace q2 := k5.cell0 q2
  replace K := hide ((unhide K).trans k5)
  have z6 := k5.size
  clear k5
  have l3 := o3.lt
  obtain ⟨nd, dd, ee⟩ := new_dya SG x 92 o3
  have kn := (Kept.refl 0 0 w5).alloc (.cells #[v3, .bool SG, .int .i64 x] 92)
  obtain ⟨a3, c3, hv⟩ := own_slice o3
  subst hv
  replace qf0 := kn.loose0 (World.block_lt_of_cell? _ _ q0) qf0
  replace qf1 := kn.loose0 (World.block_lt_of_cell? _ _ q1) qf1
  replace qf2 := kn.loose0 (World.block_lt_of_cell? _ _ q2) qf2
  replace p0 := kn.cell0 p0
  replace p1 := kn.cell0 p1
  replace p2 := kn.cell0 p2
  replace p3 := kn.cell0 p3
  replace q0 := kn.cell0 q0
  replace q1 := kn.cell0 q1
  replace q2 := kn.cell0 q2
  replace K := hide ((unhide K).trans kn)
  have z7 := kn.size
  clear kn o3
  skip
  go_wp2_with fail
  generalize w5.alloc (.cells #[.slice a3 zs.length c3, .bool SG, .int .i64 x] 92) = W9 at *
  refine (toldDyadic_impl (1) hwv _ nd dd ee hn (by omega) (by omega) (by omega) (T.kept (unhide K))).mono ?_
  rintro e w8 ⟨v7, rfl, r7, m7⟩
  have hS : ∀ i, Own1 w5.heap.size (.slice a3 zs.length c3) i → w.heap.size + 2 ≤ i := fun i e => e.elim (fun e => by have := unhide S0; omega) (fun e => by have := (l3 _ e).1; have := unhide S0; omega)
  have nS : ¬ Own1 w5.heap.size (.slice a3 zs.length c3) (w.heap.size + 1) := fun e => by have := hS _ e; omega
  replace qf0 := m7.loose (a := ⟨w.heap.size + 1, 0, none⟩) nS (World.block_lt_of_cell? _ _ q0) qf0
  replace qf1 := m7.loose (a := ⟨w.heap.size + 1, 1, none⟩) nS (World.block_lt_of_cell? _ _ q1) qf1
  replace qf2 := m7.loose (a := ⟨w.heap.size + 1, 2, none⟩) nS (World.block_lt_of_cell? _ _ q2) qf2
  replace q0 := m7.cell (a := ⟨w.heap.size + 1, 0, none⟩) nS q0
  replace q1 := m7.cell (a := ⟨w.heap.size + 1, 1, none⟩) nS q1
  replace q2 := m7.cell (a := ⟨w.heap.size + 1, 2, none⟩) nS q2
  replace K := hide ((unhide K).mod m7 (fun i e => by have := hS i e; omega))
  have z7 := m7.size
  have j1 := unhide HGS
  have j2 := unhide HGL
  have j3 := unhide HGE
  have j4 := unhide HGB
  rw [unhide HC] at j1 j2 j3 j4
  rw [j1, j3, j4]
  rw [j2] at r7
  clear j1 j2 j3 j4 m7 hS nS nd dd ee hn hnl hwv mv hm
  obtain ⟨a7, c7, hv⟩ := Row.form' r7
  subst hv
  have R := hide ((((r7.set_other (p := ⟨w.heap.size + 1, 0, none⟩) (.inl (by have := unhide S0; dsimp only; omega)) (.bool GS)).set_other (p := ⟨w.heap.size + 1, 1, none⟩) (.inl (by have := unhide S0; dsimp only; omega)) (.slice a7 GL.length c7)).set_other (p := ⟨w.heap.size + 1, 2, none⟩) (.inl (by have := unhide S0; dsimp only; omega)) (.int .i64 GE)).tight.wider (lo' := w.heap.size) (by have := unhide S0; omega) (Nat.le_refl _))
  have K7 := hide ((((unhide K).setNew (p := ⟨w.heap.size + 1, 0, none⟩) (by simp) (.bool GS)).setNew (p := ⟨w.heap.size + 1, 1, none⟩) (by simp) (.slice a7 GL.length c7)).setNew (p := ⟨w.heap.size + 1, 2, none⟩) (by simp) (.int .i64 GE))
  clear r7 K 
  go_wp2_with fail
  exact bodyPost_ret (v := .tuple #[.agg #[.bool GS, .slice a7 GL.length c7, .int .i64 GE], .bool GB]) (by simp [results, Tryd.results53, go_sem, q0, q1, q2]) rfl ⟨_, rfl, unhide R, unhide K7⟩

set_option maxHeartbeats 4000000 in
theorem flulp_spec_num (s : Bool) (m x : Int) (h : flok 1 s m x = true) (h1 : -1074 ≤ x) (h2 : x ≤ 971) (w : World) :
    Calls Tryd.prog 52 #[flv 1 s m x] w fun e' w' => ∃ v', e' = .returned (.tuple #[.agg #[.bool (wsg 1), v', .int .i64 x], .bool true]) ∧ Row .i64 true w.heap.size w'.heap.size w' v' (wlm 1) ∧ Kept 0 0 w w' := by
  have HH := hide h
  clear h
  have md := fun w => of3_spec 1 (by omega) (by omega) w
  obtain ⟨SG, hSG⟩ : ∃ y, wsg 1 = y := ⟨_, rfl⟩
  obtain ⟨ZM, hZM⟩ : ∃ y, wlm 1 = y := ⟨_, rfl⟩
  simp only [hSG, hZM] at md ⊢
  replace md := hide md
  clear hSG hZM
  have k0 : Kept 0 0 w ((w.alloc (.cells #[.int .i64 1, .bool s, .int .i64 m, .int .i64 x] 69)).alloc (.cells #[.bool false, .slice none 0 0, .int .i64 0] 44)) := (((Kept.refl 0 0 w).alloc (.cells #[.int .i64 1, .bool s, .int .i64 m, .int .i64 x] 69)).alloc (.cells #[.bool false, .slice none 0 0, .int .i64 0] 44))
  have p0 : ((w.alloc (.cells #[.int .i64 1, .bool s, .int .i64 m, .int .i64 x] 69)).alloc (.cells #[.bool false, .slice none 0 0, .int .i64 0] 44)).cell? ⟨w.heap.size, 0, none⟩ = some (.int .i64 1) := old_cell _ (new_cell2 _ _ _ _ _ _ (by simp) rfl)
  have p1 : ((w.alloc (.cells #[.int .i64 1, .bool s, .int .i64 m, .int .i64 x] 69)).alloc (.cells #[.bool false, .slice none 0 0, .int .i64 0] 44)).cell? ⟨w.heap.size, 1, none⟩ = some (.bool s) := old_cell _ (new_cell2 _ _ _ _ _ _ (by simp) rfl)
  have p2 : ((w.alloc (.cells #[.int .i64 1, .bool s, .int .i64 m, .int .i64 x] 69)).alloc (.cells #[.bool false, .slice none 0 0, .int .i64 0] 44)).cell? ⟨w.heap.size, 2, none⟩ = some (.int .i64 m) := old_cell _ (new_cell2 _ _ _ _ _ _ (by simp) rfl)
  have p3 : ((w.alloc (.cells #[.int .i64 1, .bool s, .int .i64 m, .int .i64 x] 69)).alloc (.cells #[.bool false, .slice none 0 0, .int .i64 0] 44)).cell? ⟨w.heap.size, 3, none⟩ = some (.int .i64 x) := old_cell _ (new_cell2 _ _ _ _ _ _ (by simp) rfl)
  have q0 : ((w.alloc (.cells #[.int .i64 1, .bool s, .int .i64 m, .int .i64 x] 69)).alloc (.cells #[.bool false, .slice none 0 0, .int .i64 0] 44)).cell? ⟨w.heap.size + 1, 0, none⟩ = some (.bool false) := new_cell2 _ _ _ _ _ _ (by simp) rfl
  have qf0 : ((w.alloc (.cells #[.int .i64 1, .bool s, .int .i64 m, .int .i64 x] 69)).alloc (.cells #[.bool false, .slice none 0 0, .int .i64 0] 44)).frozen? ⟨w.heap.size + 1, 0, none⟩ = false := new_loose2 _ _ _ _ _ (by simp)
  have q1 : ((w.alloc (.cells #[.int .i64 1, .bool s, .int .i64 m, .int .i64 x] 69)).alloc (.cells #[.bool false, .slice none 0 0, .int .i64 0] 44)).cell? ⟨w.heap.size + 1, 1, none⟩ = some (.slice none 0 0) := new_cell2 _ _ _ _ _ _ (by simp) rfl
  have qf1 : ((w.alloc (.cells #[.int .i64 1, .bool s, .int .i64 m, .int .i64 x] 69)).alloc (.cells #[.bool false, .slice none 0 0, .int .i64 0] 44)).frozen? ⟨w.heap.size + 1, 1, none⟩ = false := new_loose2 _ _ _ _ _ (by simp)
  have q2 : ((w.alloc (.cells #[.int .i64 1, .bool s, .int .i64 m, .int .i64 x] 69)).alloc (.cells #[.bool false, .slice none 0 0, .int .i64 0] 44)).cell? ⟨w.heap.size + 1, 2, none⟩ = some (.int .i64 0) := new_cell2 _ _ _ _ _ _ (by simp) rfl
  have qf2 : ((w.alloc (.cells #[.int .i64 1, .bool s, .int .i64 m, .int .i64 x] 69)).alloc (.cells #[.bool false, .slice none 0 0, .int .i64 0] 44)).frozen? ⟨w.heap.size + 1, 2, none⟩ = false := new_loose2 _ _ _ _ _ (by simp)
  have s0 : ((w.alloc (.cells #[.int .i64 1, .bool s, .int .i64 m, .int .i64 x] 69)).alloc (.cells #[.bool false, .slice none 0 0, .int .i64 0] 44)).heap.size = w.heap.size + 2 := by simp
  have K := hide (k0)
  clear k0
  have S0 := hide s0
  clear s0
  go_enter Tryd.func52, Tryd.ntmps52
  go_wp2_with fail
  generalize ((w.alloc (.cells #[.int .i64 1, .bool s, .int .i64 m, .int .i64 x] 69)).alloc (.cells #[.bool false, .slice none 0 0, .int .i64 0] 44)) = W at *
  refine (flok_spec_k (unhide HH) _).mono ?_
  rintro e w1 ⟨rfl, k1⟩
  replace qf0 := k1.loose0 (World.block_lt_of_cell? _ _ q0) qf0
  replace qf1 := k1.loose0 (World.block_lt_of_cell? _ _ q1) qf1
  replace qf2 := k1.loose0 (World.block_lt_of_cell? _ _ q2) qf2
  replace p0 := k1.cell0 p0
  replace p1 := k1.cell0 p1
  replace p2 := k1.cell0 p2
  replace p3 := k1.cell0 p3
  replace q0 := k1.cell0 q0
  replace q1 := k1.cell0 q1
  replace q2 := k1.cell0 q2
  replace K := hide ((unhide K).trans k1)
  have z2 := k1.size
  clear k1
  go_wp2_with fail
  refine (unhide md _).mono ?_
  rintro e w3 ⟨v7, rfl, r7, k3⟩
  replace qf0 := k3.loose0 (World.block_lt_of_cell? _ _ q0) qf0
  replace qf1 := k3.loose0 (World.block_lt_of_cell? _ _ q1) qf1
  replace qf2 := k3.loose0 (World.block_lt_of_cell? _ _ q2) qf2
  replace p0 := k3.cell0 p0
  replace p1 := k3.cell0 p1
  replace p2 := k3.cell0 p2
  replace p3 := k3.cell0 p3
  replace q0 := k3.cell0 q0
  replace q1 := k3.cell0 q1
  replace q2 := k3.cell0 q2
  replace K := hide ((unhide K).trans k3)
  have z4 := k3.size
  clear k3
  clear md
  obtain ⟨a7, c7, hv⟩ := Row.form' r7
  subst hv
  have R := hide ((((r7.set_other (p := ⟨w.heap.size + 1, 0, none⟩) (.inl (by have := unhide S0; dsimp only; omega)) (.bool SG)).set_other (p := ⟨w.heap.size + 1, 1, none⟩) (.inl (by have := unhide S0; dsimp only; omega)) (.slice a7 ZM.length c7)).set_other (p := ⟨w.heap.size + 1, 2, none⟩) (.inl (by have := unhide S0; dsimp only; omega)) (.int .i64 x)).tight.wider (lo' := w.heap.size) (by have := unhide S0; omega) (Nat.le_refl _))
  have K7 := hide ((((unhide K).setNew (p := ⟨w.heap.size + 1, 0, none⟩) (by simp) (.bool SG)).setNew (p := ⟨w.heap.size + 1, 1, none⟩) (by simp) (.slice a7 ZM.length c7)).setNew (p := ⟨w.heap.size + 1, 2, none⟩) (by simp) (.int .i64 x))
  clear r7 K 
  go_wp2_with fail
  exact bodyPost_ret (v := .tuple #[.agg #[.bool SG, .slice a7 ZM.length c7, .int .i64 x], .bool true]) (by simp [results, Tryd.results52, go_sem, q0, q1, q2]) rfl ⟨_, rfl, unhide R, unhide K7⟩

set_option maxHeartbeats 2000000 in
theorem step_nou_impl (s : Bool) (w : World) :
    Calls Tryd.prog 189 #[.agg #[.bool s]] w fun e' w' => e' = .returned (.int .i64 (-1074)) ∧ Kept 0 0 w w' := by
  go_enter Tryd.func189, Tryd.ntmps189
  go_wp2
  go_ret
  exact ⟨rfl, by repeat first | exact Kept.refl 0 0 _ | apply Kept.alloc⟩

set_option maxHeartbeats 4000000 in
theorem flulp_impl_nought (c : Bool) (hc : c = true) (s : Bool) (h : flok 0 s 0 0 = true) (w : World) (T : TabB w) :
    Calls Tryd.prog 53 #[flv 0 s 0 0] w fun e' w' => ∃ v', e' = .returned (.tuple #[.agg #[.bool (ansDS c (1) (-1074)), v', .int .i64 (ansDE c (1) (-1074))], .bool (ansDB c (1) (-1074))]) ∧ Row .i64 true w.heap.size w'.heap.size w' v' (ansDL c (1) (-1074)) ∧ Kept 0 0 w w' := by
  obtain ⟨GS, hGS⟩ : ∃ y, ansDS (c) (1) ((-1074)) = y := ⟨_, rfl⟩
  obtain ⟨GL, hGL⟩ : ∃ y, ansDL (c) (1) ((-1074)) = y := ⟨_, rfl⟩
  obtain ⟨GE, hGE⟩ : ∃ y, ansDE (c) (1) ((-1074)) = y := ⟨_, rfl⟩
  obtain ⟨GB, hGB⟩ : ∃ y, ansDB (c) (1) ((-1074)) = y := ⟨_, rfl⟩
  try rw [hGS]
  try rw [hGL]
  try rw [hGE]
  try rw [hGB]
  have HGS := hide hGS
  have HGL := hide hGL
  have HGE := hide hGE
  have HGB := hide hGB
  clear hGS hGL hGE hGB
  have HC := hide hc
  clear hc
  have HH := hide h
  clear h
  have hm := step_nought s 0 0
  have mv := fun w => signedOfInt_impl 1 (by omega) (by omega) w
  obtain ⟨zs, hL⟩ : ∃ L, wlm 1 = L := ⟨_, rfl⟩
  obtain ⟨SG, hSG⟩ : ∃ L, wsg 1 = L := ⟨_, rfl⟩
  have hn : Nrm zs := by rw [← hL]; exact limbs_nrm _
  have hnl : zs.length ≤ 50000 := by rw [← hL]; decide +kernel
  have hwv : wval SG zs = 1 := by rw [← hL, ← hSG]; exact wval_int 1
  rw [hL, hSG] at mv
  clear hL hSG
  replace mv := hide mv
  have k0 : Kept 0 0 w ((w.alloc (.cells #[.int .i64 0, .bool s, .int .i64 0, .int .i64 0] 69)).alloc (.cells #[.bool false, .slice none 0 0, .int .i64 0] 44)) := (((Kept.refl 0 0 w).alloc (.cells #[.int .i64 0, .bool s, .int .i64 0, .int .i64 0] 69)).alloc (.cells #[.bool false, .slice none 0 0, .int .i64 0] 44))
  have p0 : ((w.alloc (.cells #[.int .i64 0, .bool s, .int .i64 0, .int .i64 0] 69)).alloc (.cells #[.bool false, .slice none 0 0, .int .i64 0] 44)).cell? ⟨w.heap.size, 0, none⟩ = some (.int .i64 0) := old_cell _ (new_cell2 _ _ _ _ _ _ (by simp) rfl)
  have p1 : ((w.alloc (.cells #[.int .i64 0, .bool s, .int .i64 0, .int .i64 0] 69)).alloc (.cells #[.bool false, .slice none 0 0, .int .i64 0] 44)).cell? ⟨w.heap.size, 1, none⟩ = some (.bool s) := old_cell _ (new_cell2 _ _ _ _ _ _ (by simp) rfl)
  have p2 : ((w.alloc (.cells #[.int .i64 0, .bool s, .int .i64 0, .int .i64 0] 69)).alloc (.cells #[.bool false, .slice none 0 0, .int .i64 0] 44)).cell? ⟨w.heap.size, 2, none⟩ = some (.int .i64 0) := old_cell _ (new_cell2 _ _ _ _ _ _ (by simp) rfl)
  have p3 : ((w.alloc (.cells #[.int .i64 0, .bool s, .int .i64 0, .int .i64 0] 69)).alloc (.cells #[.bool false, .slice none 0 0, .int .i64 0] 44)).cell? ⟨w.heap.size, 3, none⟩ = some (.int .i64 0) := old_cell _ (new_cell2 _ _ _ _ _ _ (by simp) rfl)
  have q0 : ((w.alloc (.cells #[.int .i64 0, .bool s, .int .i64 0, .int .i64 0] 69)).alloc (.cells #[.bool false, .slice none 0 0, .int .i64 0] 44)).cell? ⟨w.heap.size + 1, 0, none⟩ = some (.bool false) := new_cell2 _ _ _ _ _ _ (by simp) rfl
  have qf0 : ((w.alloc (.cells #[.int .i64 0, .bool s, .int .i64 0, .int .i64 0] 69)).alloc (.cells #[.bool false, .slice none 0 0, .int .i64 0] 44)).frozen? ⟨w.heap.size + 1, 0, none⟩ = false := new_loose2 _ _ _ _ _ (by simp)
  have q1 : ((w.alloc (.cells #[.int .i64 0, .bool s, .int .i64 0, .int .i64 0] 69)).alloc (.cells #[.bool false, .slice none 0 0, .int .i64 0] 44)).cell? ⟨w.heap.size + 1, 1, none⟩ = some (.slice none 0 0) := new_cell2 _ _ _ _ _ _ (by simp) rfl
  have qf1 : ((w.alloc (.cells #[.int .i64 0, .bool s, .int .i64 0, .int .i64 0] 69)).alloc (.cells #[.bool false, .slice none 0 0, .int .i64 0] 44)).frozen? ⟨w.heap.size + 1, 1, none⟩ = false := new_loose2 _ _ _ _ _ (by simp)
  have q2 : ((w.alloc (.cells #[.int .i64 0, .bool s, .int .i64 0, .int .i64 0] 69)).alloc (.cells #[.bool false, .slice none 0 0, .int .i64 0] 44)).cell? ⟨w.heap.size + 1, 2, none⟩ = some (.int .i64 0) := new_cell2 _ _ _ _ _ _ (by simp) rfl
  have qf2 : ((w.alloc (.cells #[.int .i64 0, .bool s, .int .i64 0, .int .i64 0] 69)).alloc (.cells #[.bool false, .slice none 0 0, .int .i64 0] 44)).frozen? ⟨w.heap.size + 1, 2, none⟩ = false := new_loose2 _ _ _ _ _ (by simp)
  have s0 : ((w.alloc (.cells #[.int .i64 0, .bool s, .int .i64 0, .int .i64 0] 69)).alloc (.cells #[.bool false, .slice none 0 0, .int .i64 0] 44)).heap.size = w.heap.size + 2 := by simp
  have K := hide (k0)
  clear k0
  have S0 := hide s0
  clear s0
  go_enter Tryd.func53, Tryd.ntmps53
  go_wp2_with fail
  generalize ((w.alloc (.cells #[.int .i64 0, .bool s, .int .i64 0, .int .i64 0] 69)).alloc (.cells #[.bool false, .slice none 0 0, .int .i64 0] 44)) = W at *
  refine (finiteOf_nought s (unhide HH) _).mono ?_
  rintro e w1 ⟨rfl, k1⟩
  replace qf0 := k1.loose0 (World.block_lt_of_cell? _ _ q0) qf0
  replace qf1 := k1.loose0 (World.block_lt_of_cell? _ _ q1) qf1
  replace qf2 := k1.loose0 (World.block_lt_of_cell? _ _ q2) qf2
  replace p0 := k1.cell0 p0
  replace p1 := k1.cell0 p1
  replace p2 := k1.cell0 p2
  replace p3 := k1.cell0 p3
  replace q0 := k1.cell0 q0
  replace q1 := k1.cell0 q1
  replace q2 := k1.cell0 q2
  replace K := hide ((unhide K).trans k1)
  have z2 := k1.size
  clear k1
  go_wp2_with fail
  refine (unhide mv _).mono ?_
  rintro e w3 ⟨v3, rfl, o3, k3⟩
  replace qf0 := k3.loose0 (World.block_lt_of_cell? _ _ q0) qf0
  replace qf1 := k3.loose0 (World.block_lt_of_cell? _ _ q1) qf1
  replace qf2 := k3.loose0 (World.block_lt_of_cell? _ _ q2) qf2
  replace p0 := k3.cell0 p0
  replace p1 := k3.cell0 p1
  replace p2 := k3.cell0 p2
  replace p3 := k3.cell0 p3
  replace q0 := k3.cell0 q0
  replace q1 := k3.cell0 q1
  replace q2 := k3.cell0 q2
  replace K := hide ((unhide K).trans k3)
  have z4 := k3.size
  clear k3
  go_wp2_with fail
  refine (step_nou_impl s _).mono ?_
  rintro e w5 ⟨rfl, k5⟩
  replace o3 := own_kept o3 k5
  replace qf0 := k5.loose0 (World.block_lt_of_cell? _ _ q0) qf0
  replace qf1 := k5.loose0 (World.block_lt_of_cell? _ _ q1) qf1
  replace qf2 := k5.loose0 (World.block_lt_of_cell? _ _ q2) qf2
  replace p0 := k5.cell0 p0
  replace p1 := k5.cell0 p1
  replace p2 := k5.cell0 p2
  replace p3 := k5.cell0 p3
  replace q0 := k5.cell0 q0
  replace q1 := k5.cell0 q1
  replace q2 := k5.cell0 q2
  replace K := hide ((unhide K).trans k5)
  have z6 := k5.size
  clear k5
  have l3 := o3.lt
  obtain ⟨nd, dd, ee⟩ := new_dya SG (-1074) 92 o3
  have kn := (Kept.refl 0 0 w5).alloc (.cells #[v3, .bool SG, .int .i64 (-1074)] 92)
  obtain ⟨a3, c3, hv⟩ := own_slice o3
  subst hv
  replace qf0 := kn.loose0 (World.block_lt_of_cell? _ _ q0) qf0
  replace qf1 := kn.loose0 (World.block_lt_of_cell? _ _ q1) qf1
  replace qf2 := kn.loose0 (World.block_lt_of_cell? _ _ q2) qf2
  replace p0 := kn.cell0 p0
  replace p1 := kn.cell0 p1
  replace p2 := kn.cell0 p2
  replace p3 := kn.cell0 p3
  replace q0 := kn.cell0 q0
  replace q1 := kn.cell0 q1
  replace q2 := kn.cell0 q2
  replace K := hide ((unhide K).trans kn)
  have z7 := kn.size
  clear kn o3
  skip
  go_wp2_with fail
  generalize w5.alloc (.cells #[.slice a3 zs.length c3, .bool SG, .int .i64 (-1074)] 92) = W9 at *
  refine (toldDyadic_impl (1) hwv _ nd dd ee hn (by omega) (by omega) (by omega) (T.kept (unhide K))).mono ?_
  rintro e w8 ⟨v7, rfl, r7, m7⟩
  have hS : ∀ i, Own1 w5.heap.size (.slice a3 zs.length c3) i → w.heap.size + 2 ≤ i := fun i e => e.elim (fun e => by have := unhide S0; omega) (fun e => by have := (l3 _ e).1; have := unhide S0; omega)
  have nS : ¬ Own1 w5.heap.size (.slice a3 zs.length c3) (w.heap.size + 1) := fun e => by have := hS _ e; omega
  replace qf0 := m7.loose (a := ⟨w.heap.size + 1, 0, none⟩) nS (World.block_lt_of_cell? _ _ q0) qf0
  replace qf1 := m7.loose (a := ⟨w.heap.size + 1, 1, none⟩) nS (World.block_lt_of_cell? _ _ q1) qf1
  replace qf2 := m7.loose (a := ⟨w.heap.size + 1, 2, none⟩) nS (World.block_lt_of_cell? _ _ q2) qf2
  replace q0 := m7.cell (a := ⟨w.heap.size + 1, 0, none⟩) nS q0
  replace q1 := m7.cell (a := ⟨w.heap.size + 1, 1, none⟩) nS q1
  replace q2 := m7.cell (a := ⟨w.heap.size + 1, 2, none⟩) nS q2
  replace K := hide ((unhide K).mod m7 (fun i e => by have := hS i e; omega))
  have z7 := m7.size
  have j1 := unhide HGS
  have j2 := unhide HGL
  have j3 := unhide HGE
  have j4 := unhide HGB
  rw [unhide HC] at j1 j2 j3 j4
  rw [j1, j3, j4]
  rw [j2] at r7
  clear j1 j2 j3 j4 m7 hS nS nd dd ee hn hnl hwv mv hm
  obtain ⟨a7, c7, hv⟩ := Row.form' r7
  subst hv
  have R := hide ((((r7.set_other (p := ⟨w.heap.size + 1, 0, none⟩) (.inl (by have := unhide S0; dsimp only; omega)) (.bool GS)).set_other (p := ⟨w.heap.size + 1, 1, none⟩) (.inl (by have := unhide S0; dsimp only; omega)) (.slice a7 GL.length c7)).set_other (p := ⟨w.heap.size + 1, 2, none⟩) (.inl (by have := unhide S0; dsimp only; omega)) (.int .i64 GE)).tight.wider (lo' := w.heap.size) (by have := unhide S0; omega) (Nat.le_refl _))
  have K7 := hide ((((unhide K).setNew (p := ⟨w.heap.size + 1, 0, none⟩) (by simp) (.bool GS)).setNew (p := ⟨w.heap.size + 1, 1, none⟩) (by simp) (.slice a7 GL.length c7)).setNew (p := ⟨w.heap.size + 1, 2, none⟩) (by simp) (.int .i64 GE))
  clear r7 K 
  go_wp2_with fail
  exact bodyPost_ret (v := .tuple #[.agg #[.bool GS, .slice a7 GL.length c7, .int .i64 GE], .bool GB]) (by simp [results, Tryd.results53, go_sem, q0, q1, q2]) rfl ⟨_, rfl, unhide R, unhide K7⟩

set_option maxHeartbeats 4000000 in
theorem flulp_spec_nought (s : Bool) (h : flok 0 s 0 0 = true) (w : World) :
    Calls Tryd.prog 52 #[flv 0 s 0 0] w fun e' w' => ∃ v', e' = .returned (.tuple #[.agg #[.bool (wsg 1), v', .int .i64 (-1074)], .bool true]) ∧ Row .i64 true w.heap.size w'.heap.size w' v' (wlm 1) ∧ Kept 0 0 w w' := by
  have HH := hide h
  clear h
  have md := fun w => of3_spec 1 (by omega) (by omega) w
  obtain ⟨SG, hSG⟩ : ∃ y, wsg 1 = y := ⟨_, rfl⟩
  obtain ⟨ZM, hZM⟩ : ∃ y, wlm 1 = y := ⟨_, rfl⟩
  simp only [hSG, hZM] at md ⊢
  replace md := hide md
  clear hSG hZM
  have k0 : Kept 0 0 w ((w.alloc (.cells #[.int .i64 0, .bool s, .int .i64 0, .int .i64 0] 69)).alloc (.cells #[.bool false, .slice none 0 0, .int .i64 0] 44)) := (((Kept.refl 0 0 w).alloc (.cells #[.int .i64 0, .bool s, .int .i64 0, .int .i64 0] 69)).alloc (.cells #[.bool false, .slice none 0 0, .int .i64 0] 44))
  have p0 : ((w.alloc (.cells #[.int .i64 0, .bool s, .int .i64 0, .int .i64 0] 69)).alloc (.cells #[.bool false, .slice none 0 0, .int .i64 0] 44)).cell? ⟨w.heap.size, 0, none⟩ = some (.int .i64 0) := old_cell _ (new_cell2 _ _ _ _ _ _ (by simp) rfl)
  have p1 : ((w.alloc (.cells #[.int .i64 0, .bool s, .int .i64 0, .int .i64 0] 69)).alloc (.cells #[.bool false, .slice none 0 0, .int .i64 0] 44)).cell? ⟨w.heap.size, 1, none⟩ = some (.bool s) := old_cell _ (new_cell2 _ _ _ _ _ _ (by simp) rfl)
  have p2 : ((w.alloc (.cells #[.int .i64 0, .bool s, .int .i64 0, .int .i64 0] 69)).alloc (.cells #[.bool false, .slice none 0 0, .int .i64 0] 44)).cell? ⟨w.heap.size, 2, none⟩ = some (.int .i64 0) := old_cell _ (new_cell2 _ _ _ _ _ _ (by simp) rfl)
  have p3 : ((w.alloc (.cells #[.int .i64 0, .bool s, .int .i64 0, .int .i64 0] 69)).alloc (.cells #[.bool false, .slice none 0 0, .int .i64 0] 44)).cell? ⟨w.heap.size, 3, none⟩ = some (.int .i64 0) := old_cell _ (new_cell2 _ _ _ _ _ _ (by simp) rfl)
  have q0 : ((w.alloc (.cells #[.int .i64 0, .bool s, .int .i64 0, .int .i64 0] 69)).alloc (.cells #[.bool false, .slice none 0 0, .int .i64 0] 44)).cell? ⟨w.heap.size + 1, 0, none⟩ = some (.bool false) := new_cell2 _ _ _ _ _ _ (by simp) rfl
  have qf0 : ((w.alloc (.cells #[.int .i64 0, .bool s, .int .i64 0, .int .i64 0] 69)).alloc (.cells #[.bool false, .slice none 0 0, .int .i64 0] 44)).frozen? ⟨w.heap.size + 1, 0, none⟩ = false := new_loose2 _ _ _ _ _ (by simp)
  have q1 : ((w.alloc (.cells #[.int .i64 0, .bool s, .int .i64 0, .int .i64 0] 69)).alloc (.cells #[.bool false, .slice none 0 0, .int .i64 0] 44)).cell? ⟨w.heap.size + 1, 1, none⟩ = some (.slice none 0 0) := new_cell2 _ _ _ _ _ _ (by simp) rfl
  have qf1 : ((w.alloc (.cells #[.int .i64 0, .bool s, .int .i64 0, .int .i64 0] 69)).alloc (.cells #[.bool false, .slice none 0 0, .int .i64 0] 44)).frozen? ⟨w.heap.size + 1, 1, none⟩ = false := new_loose2 _ _ _ _ _ (by simp)
  have q2 : ((w.alloc (.cells #[.int .i64 0, .bool s, .int .i64 0, .int .i64 0] 69)).alloc (.cells #[.bool false, .slice none 0 0, .int .i64 0] 44)).cell? ⟨w.heap.size + 1, 2, none⟩ = some (.int .i64 0) := new_cell2 _ _ _ _ _ _ (by simp) rfl
  have qf2 : ((w.alloc (.cells #[.int .i64 0, .bool s, .int .i64 0, .int .i64 0] 69)).alloc (.cells #[.bool false, .slice none 0 0, .int .i64 0] 44)).frozen? ⟨w.heap.size + 1, 2, none⟩ = false := new_loose2 _ _ _ _ _ (by simp)
  have s0 : ((w.alloc (.cells #[.int .i64 0, .bool s, .int .i64 0, .int .i64 0] 69)).alloc (.cells #[.bool false, .slice none 0 0, .int .i64 0] 44)).heap.size = w.heap.size + 2 := by simp
  have K := hide (k0)
  clear k0
  have S0 := hide s0
  clear s0
  go_enter Tryd.func52, Tryd.ntmps52
  go_wp2_with fail
  generalize ((w.alloc (.cells #[.int .i64 0, .bool s, .int .i64 0, .int .i64 0] 69)).alloc (.cells #[.bool false, .slice none 0 0, .int .i64 0] 44)) = W at *
  refine (flok_spec_k (unhide HH) _).mono ?_
  rintro e w1 ⟨rfl, k1⟩
  replace qf0 := k1.loose0 (World.block_lt_of_cell? _ _ q0) qf0
  replace qf1 := k1.loose0 (World.block_lt_of_cell? _ _ q1) qf1
  replace qf2 := k1.loose0 (World.block_lt_of_cell? _ _ q2) qf2
  replace p0 := k1.cell0 p0
  replace p1 := k1.cell0 p1
  replace p2 := k1.cell0 p2
  replace p3 := k1.cell0 p3
  replace q0 := k1.cell0 q0
  replace q1 := k1.cell0 q1
  replace q2 := k1.cell0 q2
  replace K := hide ((unhide K).trans k1)
  have z2 := k1.size
  clear k1
  go_wp2_with fail
  refine (unhide md _).mono ?_
  rintro e w3 ⟨v7, rfl, r7, k3⟩
  replace qf0 := k3.loose0 (World.block_lt_of_cell? _ _ q0) qf0
  replace qf1 := k3.loose0 (World.block_lt_of_cell? _ _ q1) qf1
  replace qf2 := k3.loose0 (World.block_lt_of_cell? _ _ q2) qf2
  replace p0 := k3.cell0 p0
  replace p1 := k3.cell0 p1
  replace p2 := k3.cell0 p2
  replace p3 := k3.cell0 p3
  replace q0 := k3.cell0 q0
  replace q1 := k3.cell0 q1
  replace q2 := k3.cell0 q2
  replace K := hide ((unhide K).trans k3)
  have z4 := k3.size
  clear k3
  clear md
  obtain ⟨a7, c7, hv⟩ := Row.form' r7
  subst hv
  have R := hide ((((r7.set_other (p := ⟨w.heap.size + 1, 0, none⟩) (.inl (by have := unhide S0; dsimp only; omega)) (.bool SG)).set_other (p := ⟨w.heap.size + 1, 1, none⟩) (.inl (by have := unhide S0; dsimp only; omega)) (.slice a7 ZM.length c7)).set_other (p := ⟨w.heap.size + 1, 2, none⟩) (.inl (by have := unhide S0; dsimp only; omega)) (.int .i64 (-1074))).tight.wider (lo' := w.heap.size) (by have := unhide S0; omega) (Nat.le_refl _))
  have K7 := hide ((((unhide K).setNew (p := ⟨w.heap.size + 1, 0, none⟩) (by simp) (.bool SG)).setNew (p := ⟨w.heap.size + 1, 1, none⟩) (by simp) (.slice a7 ZM.length c7)).setNew (p := ⟨w.heap.size + 1, 2, none⟩) (by simp) (.int .i64 (-1074)))
  clear r7 K 
  go_wp2_with fail
  exact bodyPost_ret (v := .tuple #[.agg #[.bool SG, .slice a7 ZM.length c7, .int .i64 (-1074)], .bool true]) (by simp [results, Tryd.results52, go_sem, q0, q1, q2]) rfl ⟨_, rfl, unhide R, unhide K7⟩

theorem flulp_spec (k : Int) (n : Bool) (m e : Int) (w : World) :
    Calls Tryd.prog 52 #[flv k n m e] w fun e' w' => ∃ v', e' = .returned (.tuple #[.agg #[.bool (ansDS (fdyB k n m e) (1) (fstep k e)), v', .int .i64 (ansDE (fdyB k n m e) (1) (fstep k e))], .bool (ansDB (fdyB k n m e) (1) (fstep k e))]) ∧ Row .i64 true w.heap.size w'.heap.size w' v' (ansDL (fdyB k n m e) (1) (fstep k e)) ∧ Kept 0 0 w w' := by
  have bad : fdyB k n m e = false → ansDS (fdyB k n m e) 1 (fstep k e) = false ∧ ansDL (fdyB k n m e) 1 (fstep k e) = [] ∧ ansDE (fdyB k n m e) 1 (fstep k e) = 0 ∧ ansDB (fdyB k n m e) 1 (fstep k e) = false := fun q => by
    obtain ⟨a, b, c⟩ := ansD_no (ansDB_no q : ansDB (fdyB k n m e) 1 (fstep k e) = false)
    exact ⟨a, b, c, ansDB_no q⟩
  by_cases h : flok k n m e = true
  · rcases flok_ways h with ⟨rfl, h1, h2, h3, h4, h5⟩ | ⟨rfl, rfl, rfl⟩ | ⟨rfl, rfl, rfl⟩ | ⟨rfl, rfl, rfl, rfl⟩
    · clear bad
      rw [show fstep 1 e = e from rfl]
      obtain ⟨e1, e2, e3, e4⟩ := ans_yes (c := fdyB 1 n m e) (m := 1) (x := e) (by unfold fdyB; rw [h]; rfl) (by decide) (by omega) (by omega)
      rw [e1, e2, e3, e4, (one_form e).1, (one_form e).2]
      exact flulp_spec_num n m e h h1 h2 w
    · clear bad
      rw [show fstep 0 0 = (-1074) from rfl]
      obtain ⟨e1, e2, e3, e4⟩ := ans_yes (c := fdyB 0 n 0 0) (m := 1) (x := (-1074)) (by unfold fdyB; rw [h]; rfl) (by decide) (by omega) (by omega)
      rw [e1, e2, e3, e4, (one_form (-1074)).1, (one_form (-1074)).2]
      exact flulp_spec_nought n h w
    · obtain ⟨e1, e2, e3, e4⟩ := bad (by unfold fdyB; simp)
      rw [e1, e2, e3, e4]
      exact flulp_spec_inf n h w
    · obtain ⟨e1, e2, e3, e4⟩ := bad (by unfold fdyB; simp)
      rw [e1, e2, e3, e4]
      exact flulp_spec_nan h w
  · have h' : flok k n m e = false := by simpa using h
    obtain ⟨e1, e2, e3, e4⟩ := bad (fdyB_no h')
    rw [e1, e2, e3, e4]
    exact flulp_spec_no k n m e h' w

theorem flulp_impl (k : Int) (n : Bool) (m e : Int) (w : World) (T : TabB w) :
    Calls Tryd.prog 53 #[flv k n m e] w fun e' w' => ∃ v', e' = .returned (.tuple #[.agg #[.bool (ansDS (fdyB k n m e) (1) (fstep k e)), v', .int .i64 (ansDE (fdyB k n m e) (1) (fstep k e))], .bool (ansDB (fdyB k n m e) (1) (fstep k e))]) ∧ Row .i64 true w.heap.size w'.heap.size w' v' (ansDL (fdyB k n m e) (1) (fstep k e)) ∧ Kept 0 0 w w' := by
  have bad : fdyB k n m e = false → ansDS (fdyB k n m e) 1 (fstep k e) = false ∧ ansDL (fdyB k n m e) 1 (fstep k e) = [] ∧ ansDE (fdyB k n m e) 1 (fstep k e) = 0 ∧ ansDB (fdyB k n m e) 1 (fstep k e) = false := fun q => by
    obtain ⟨a, b, c⟩ := ansD_no (ansDB_no q : ansDB (fdyB k n m e) 1 (fstep k e) = false)
    exact ⟨a, b, c, ansDB_no q⟩
  by_cases h : flok k n m e = true
  · rcases flok_ways h with ⟨rfl, h1, h2, h3, h4, h5⟩ | ⟨rfl, rfl, rfl⟩ | ⟨rfl, rfl, rfl⟩ | ⟨rfl, rfl, rfl, rfl⟩
    · clear bad
      rw [show fstep 1 e = e from rfl]
      exact flulp_impl_num _ (by unfold fdyB; rw [h]; rfl) n m e h h1 h2 w T
    · clear bad
      rw [show fstep 0 0 = (-1074) from rfl]
      exact flulp_impl_nought _ (by unfold fdyB; rw [h]; rfl) n h w T
    · obtain ⟨e1, e2, e3, e4⟩ := bad (by unfold fdyB; simp)
      rw [e1, e2, e3, e4]
      exact flulp_impl_inf n h w
    · obtain ⟨e1, e2, e3, e4⟩ := bad (by unfold fdyB; simp)
      rw [e1, e2, e3, e4]
      exact flulp_impl_nan h w
  · have h' : flok k n m e = false := by simpa using h
    obtain ⟨e1, e2, e3, e4⟩ := bad (fdyB_no h')
    rw [e1, e2, e3, e4]
    exact flulp_impl_no k n m e h' w

end Go.Proofs.YtdlpkppkmfjdiaaDoor
