/-
  Intervals of the program: IvOf.
-/
import Derived.Test.YthahoabkehcgbaaDoorIv1D
import Derived.Test.YthahoabkehcgbaaDoorIv2D
import Derived.Deep.DeepCutAuto
import Derived.Deep.RegionHeld3
namespace Go.Proofs.YthahoabkehcgbaaDoor
open Go.RowKit
set_option linter.unusedVariables false
set_option maxRecDepth 8000
set_option linter.unusedSimpArgs false

set_option maxHeartbeats 2000000 in
theorem ivof1_impl {bw : Bool} {lo hi : Nat} {v : Value} {zs : List Int} (s : Bool) (x : Int) (ho : dokB s zs x = true) (mode : Int) (w : World) (r : Row .i64 bw lo hi w v zs) (T : TabB w) :
    Calls Tryd.prog 38 #[.agg #[.bool s, v, .int .i64 x], .int .i64 mode] w fun e w' => ∃ v', e = .returned (.tuple #[.agg #[.bool (ansDS (dokB s zs x) (wval s zs) (x)), v', .int .i64 (ansDE (dokB s zs x) (wval s zs) (x))], .bool (ansDB (dokB s zs x) (wval s zs) (x))]) ∧ Row .i64 true w.heap.size w'.heap.size w' v' (ansDL (dokB s zs x) (wval s zs) (x)) ∧ Kept 0 0 w w' := by
  obtain ⟨GS, hGS⟩ : ∃ y, ansDS (dokB s zs x) (wval s zs) (x) = y := ⟨_, rfl⟩
  obtain ⟨GL, hGL⟩ : ∃ y, ansDL (dokB s zs x) (wval s zs) (x) = y := ⟨_, rfl⟩
  obtain ⟨GE, hGE⟩ : ∃ y, ansDE (dokB s zs x) (wval s zs) (x) = y := ⟨_, rfl⟩
  obtain ⟨GB, hGB⟩ : ∃ y, ansDB (dokB s zs x) (wval s zs) (x) = y := ⟨_, rfl⟩
  try rw [hGS]
  try rw [hGL]
  try rw [hGE]
  try rw [hGB]
  have HGS := hide hGS
  have HGL := hide hGL
  have HGE := hide hGE
  have HGB := hide hGB
  clear hGS hGL hGE hGB
  have k0 : Kept 0 0 w ((w.alloc (.cells #[.bool s, v, .int .i64 x] 52)).alloc (.cells #[.bool false, .slice none 0 0, .int .i64 0] 52)) := (((Kept.refl 0 0 w).alloc (.cells #[.bool s, v, .int .i64 x] 52)).alloc (.cells #[.bool false, .slice none 0 0, .int .i64 0] 52))
  have p0 : ((w.alloc (.cells #[.bool s, v, .int .i64 x] 52)).alloc (.cells #[.bool false, .slice none 0 0, .int .i64 0] 52)).cell? ⟨w.heap.size, 0, none⟩ = some (.bool s) := old_cell _ (new_cell2 _ _ _ _ _ _ (by simp) rfl)
  have p1 : ((w.alloc (.cells #[.bool s, v, .int .i64 x] 52)).alloc (.cells #[.bool false, .slice none 0 0, .int .i64 0] 52)).cell? ⟨w.heap.size, 1, none⟩ = some (v) := old_cell _ (new_cell2 _ _ _ _ _ _ (by simp) rfl)
  have p2 : ((w.alloc (.cells #[.bool s, v, .int .i64 x] 52)).alloc (.cells #[.bool false, .slice none 0 0, .int .i64 0] 52)).cell? ⟨w.heap.size, 2, none⟩ = some (.int .i64 x) := old_cell _ (new_cell2 _ _ _ _ _ _ (by simp) rfl)
  have q0 : ((w.alloc (.cells #[.bool s, v, .int .i64 x] 52)).alloc (.cells #[.bool false, .slice none 0 0, .int .i64 0] 52)).cell? ⟨w.heap.size + 1, 0, none⟩ = some (.bool false) := new_cell2 _ _ _ _ _ _ (by simp) rfl
  have qf0 : ((w.alloc (.cells #[.bool s, v, .int .i64 x] 52)).alloc (.cells #[.bool false, .slice none 0 0, .int .i64 0] 52)).frozen? ⟨w.heap.size + 1, 0, none⟩ = false := new_loose2 _ _ _ _ _ (by simp)
  have q1 : ((w.alloc (.cells #[.bool s, v, .int .i64 x] 52)).alloc (.cells #[.bool false, .slice none 0 0, .int .i64 0] 52)).cell? ⟨w.heap.size + 1, 1, none⟩ = some (.slice none 0 0) := new_cell2 _ _ _ _ _ _ (by simp) rfl
  have qf1 : ((w.alloc (.cells #[.bool s, v, .int .i64 x] 52)).alloc (.cells #[.bool false, .slice none 0 0, .int .i64 0] 52)).frozen? ⟨w.heap.size + 1, 1, none⟩ = false := new_loose2 _ _ _ _ _ (by simp)
  have q2 : ((w.alloc (.cells #[.bool s, v, .int .i64 x] 52)).alloc (.cells #[.bool false, .slice none 0 0, .int .i64 0] 52)).cell? ⟨w.heap.size + 1, 2, none⟩ = some (.int .i64 0) := new_cell2 _ _ _ _ _ _ (by simp) rfl
  have qf2 : ((w.alloc (.cells #[.bool s, v, .int .i64 x] 52)).alloc (.cells #[.bool false, .slice none 0 0, .int .i64 0] 52)).frozen? ⟨w.heap.size + 1, 2, none⟩ = false := new_loose2 _ _ _ _ _ (by simp)
  replace r := r.kept k0 (by omega)
  have s0 : ((w.alloc (.cells #[.bool s, v, .int .i64 x] 52)).alloc (.cells #[.bool false, .slice none 0 0, .int .i64 0] 52)).heap.size = w.heap.size + 2 := by simp
  obtain ⟨a, c, hv⟩ := Row.form' r
  subst hv
  have K := hide (k0)
  clear k0
  have S0 := hide s0
  clear s0
  go_enter Tryd.func38, Tryd.ntmps38
  go_wp2_with fail
  generalize ((w.alloc (.cells #[.bool s, .slice a zs.length c, .int .i64 x] 52)).alloc (.cells #[.bool false, .slice none 0 0, .int .i64 0] 52)) = W at *
  have HO := hide ho
  obtain ⟨h1, h2, h3, -, -⟩ := dok_parts ho
  have wn := wok_wn h1
  obtain ⟨-, -, hl, hn⟩ := wok_int h1
  clear ho h1
  refine (dyadicOf_impl s x _ r (by omega)).mono ?_
  rintro e w1 ⟨v3, rfl, o3, k1⟩
  replace r := r.kept k1 (.inr (.inr (Nat.le_refl 0)))
  replace qf0 := k1.loose0 (World.block_lt_of_cell? _ _ q0) qf0
  replace qf1 := k1.loose0 (World.block_lt_of_cell? _ _ q1) qf1
  replace qf2 := k1.loose0 (World.block_lt_of_cell? _ _ q2) qf2
  replace p0 := k1.cell0 p0
  replace p1 := k1.cell0 p1
  replace p2 := k1.cell0 p2
  replace q0 := k1.cell0 q0
  replace q1 := k1.cell0 q1
  replace q2 := k1.cell0 q2
  replace K := hide ((unhide K).trans k1)
  have z2 := k1.size
  clear k1
  clear r
  have l3 := o3.lt
  obtain ⟨nd, dd, ee⟩ := new_dya s x 84 o3
  have kn := (Kept.refl 0 0 w1).alloc (.cells #[v3, .bool s, .int .i64 x] 84)
  obtain ⟨a3, c3, hv⟩ := own_slice o3
  subst hv
  replace qf0 := kn.loose0 (World.block_lt_of_cell? _ _ q0) qf0
  replace qf1 := kn.loose0 (World.block_lt_of_cell? _ _ q1) qf1
  replace qf2 := kn.loose0 (World.block_lt_of_cell? _ _ q2) qf2
  replace p0 := kn.cell0 p0
  replace p1 := kn.cell0 p1
  replace p2 := kn.cell0 p2
  replace q0 := kn.cell0 q0
  replace q1 := kn.cell0 q1
  replace q2 := kn.cell0 q2
  replace K := hide ((unhide K).trans kn)
  have z3 := kn.size
  clear kn o3
  skip
  go_wp2_with fail
  generalize w1.alloc (.cells #[.slice a3 zs.length c3, .bool s, .int .i64 x] 84) = W9 at *
  refine (toldDyadic_impl (wval s zs) rfl _ nd dd ee hn (by omega) (by omega) (by omega) (T.kept (unhide K))).mono ?_
  rintro e w4 ⟨v7, rfl, r7, m7⟩
  have hS : ∀ i, Own1 w1.heap.size (.slice a3 zs.length c3) i → w.heap.size + 2 ≤ i := fun i e => e.elim (fun e => by have := unhide S0; omega) (fun e => by have := (l3 _ e).1; have := unhide S0; omega)
  have nS : ¬ Own1 w1.heap.size (.slice a3 zs.length c3) (w.heap.size + 1) := fun e => by have := hS _ e; omega
  replace qf0 := m7.loose (a := ⟨w.heap.size + 1, 0, none⟩) nS (World.block_lt_of_cell? _ _ q0) qf0
  replace qf1 := m7.loose (a := ⟨w.heap.size + 1, 1, none⟩) nS (World.block_lt_of_cell? _ _ q1) qf1
  replace qf2 := m7.loose (a := ⟨w.heap.size + 1, 2, none⟩) nS (World.block_lt_of_cell? _ _ q2) qf2
  replace q0 := m7.cell (a := ⟨w.heap.size + 1, 0, none⟩) nS q0
  replace q1 := m7.cell (a := ⟨w.heap.size + 1, 1, none⟩) nS q1
  replace q2 := m7.cell (a := ⟨w.heap.size + 1, 2, none⟩) nS q2
  replace K := hide ((unhide K).mod m7 (fun i e => by have := hS i e; omega))
  have z7 := m7.size
  have j1 := unhide HGS
  have j2 := unhide HGL
  have j3 := unhide HGE
  have j4 := unhide HGB
  rw [unhide HO] at j1 j2 j3 j4
  rw [j1, j3, j4]
  rw [j2] at r7
  clear j1 j2 j3 j4 m7 hS nS nd dd ee wn hn
  obtain ⟨a7, c7, hv⟩ := Row.form' r7
  subst hv
  have R := hide ((((r7.set_other (p := ⟨w.heap.size + 1, 0, none⟩) (.inl (by have := unhide S0; dsimp only; omega)) (.bool GS)).set_other (p := ⟨w.heap.size + 1, 1, none⟩) (.inl (by have := unhide S0; dsimp only; omega)) (.slice a7 GL.length c7)).set_other (p := ⟨w.heap.size + 1, 2, none⟩) (.inl (by have := unhide S0; dsimp only; omega)) (.int .i64 GE)).tight.wider (lo' := w.heap.size) (by have := unhide S0; omega) (Nat.le_refl _))
  have K7 := hide ((((unhide K).setNew (p := ⟨w.heap.size + 1, 0, none⟩) (by simp) (.bool GS)).setNew (p := ⟨w.heap.size + 1, 1, none⟩) (by simp) (.slice a7 GL.length c7)).setNew (p := ⟨w.heap.size + 1, 2, none⟩) (by simp) (.int .i64 GE))
  clear r7 K 
  go_wp2_with fail
  exact bodyPost_ret (v := .tuple #[.agg #[.bool GS, .slice a7 GL.length c7, .int .i64 GE], .bool GB]) (by simp [results, Tryd.results38, go_sem, q0, q1, q2]) rfl ⟨_, rfl, unhide R, unhide K7⟩

theorem in_ivof1 : ∀ (w : World) (args : Array Value), (callFunc 38 args).run Tryd.prog w = .ok (.enter 38 args) w := enters Tryd.func38 (by decide) (fun h => by cases h)

set_option maxHeartbeats 2000000 in
theorem ivof_impl {b1 b2 : Bool} {w1l w1h w2l w2h : Nat} {v1 v2 : Value} {l1 l2 : List Int} (s1 : Bool) (e1 : Int) (hu1 : e1 ≤ 9223372036854775807) (hd1 : -9223372036854775808 ≤ e1) (s2 : Bool) (e2 : Int) (hu2 : e2 ≤ 9223372036854775807) (hd2 : -9223372036854775808 ≤ e2) (w : World) (r1 : Row .i64 b1 w1l w1h w v1 l1) (r2 : Row .i64 b2 w2l w2h w v2 l2) (T : TabB w) :
    Calls Tryd.prog 21 #[.agg #[.bool s1, v1, .int .i64 e1], .agg #[.bool s2, v2, .int .i64 e2]] w fun e w' => IvAns (ivC (iokB s1 l1 e1 s2 l2 e2) (wval s1 l1) (e1) (wval s2 l2) (e2)) (wsg (wval s1 l1)) (dex (wval s1 l1) (e1)) (dlm (wval s1 l1)) (wsg (wval s2 l2)) (dex (wval s2 l2) (e2)) (dlm (wval s2 l2)) w e w' := by
  obtain ⟨CC, hCC⟩ : ∃ c, ivC (iokB s1 l1 e1 s2 l2 e2) (wval s1 l1) (e1) (wval s2 l2) (e2) = c := ⟨_, rfl⟩
  rw [hCC]
  have HCC := hide hCC
  clear hCC
  obtain ⟨W1, hW1⟩ : ∃ c, wsg (wval s1 l1) = c := ⟨_, rfl⟩
  obtain ⟨D1, hD1⟩ : ∃ c, dex (wval s1 l1) (e1) = c := ⟨_, rfl⟩
  obtain ⟨Q1, hQ1⟩ : ∃ c, dlm (wval s1 l1) = c := ⟨_, rfl⟩
  obtain ⟨W2, hW2⟩ : ∃ c, wsg (wval s2 l2) = c := ⟨_, rfl⟩
  obtain ⟨D2, hD2⟩ : ∃ c, dex (wval s2 l2) (e2) = c := ⟨_, rfl⟩
  obtain ⟨Q2, hQ2⟩ : ∃ c, dlm (wval s2 l2) = c := ⟨_, rfl⟩
  try rw [hW1]
  try rw [hD1]
  try rw [hQ1]
  try rw [hW2]
  try rw [hD2]
  try rw [hQ2]
  have HW1 := hide hW1
  clear hW1
  have HD1 := hide hD1
  clear hD1
  have HQ1 := hide hQ1
  clear hQ1
  have HW2 := hide hW2
  clear hW2
  have HD2 := hide hD2
  clear hD2
  have HQ2 := hide hQ2
  clear hQ2
  have k0 : Kept 0 0 w (((w.alloc (.cells #[.bool s1, v1, .int .i64 e1] 52)).alloc (.cells #[.bool s2, v2, .int .i64 e2] 52)).alloc (.cells #[.bool false, .slice none 0 0, .int .i64 0, .bool false, .slice none 0 0, .int .i64 0] 54)) := ((((Kept.refl 0 0 w).alloc (.cells #[.bool s1, v1, .int .i64 e1] 52)).alloc (.cells #[.bool s2, v2, .int .i64 e2] 52)).alloc (.cells #[.bool false, .slice none 0 0, .int .i64 0, .bool false, .slice none 0 0, .int .i64 0] 54))
  have bp0 : (((w.alloc (.cells #[.bool s1, v1, .int .i64 e1] 52)).alloc (.cells #[.bool s2, v2, .int .i64 e2] 52)).alloc (.cells #[.bool false, .slice none 0 0, .int .i64 0, .bool false, .slice none 0 0, .int .i64 0] 54)).cell? ⟨w.heap.size, 0, none⟩ = some (.bool s1) := old_cell _ (old_cell _ (new_cell2 _ _ _ _ _ _ (by simp) rfl))
  have bp1 : (((w.alloc (.cells #[.bool s1, v1, .int .i64 e1] 52)).alloc (.cells #[.bool s2, v2, .int .i64 e2] 52)).alloc (.cells #[.bool false, .slice none 0 0, .int .i64 0, .bool false, .slice none 0 0, .int .i64 0] 54)).cell? ⟨w.heap.size, 1, none⟩ = some (v1) := old_cell _ (old_cell _ (new_cell2 _ _ _ _ _ _ (by simp) rfl))
  have bp2 : (((w.alloc (.cells #[.bool s1, v1, .int .i64 e1] 52)).alloc (.cells #[.bool s2, v2, .int .i64 e2] 52)).alloc (.cells #[.bool false, .slice none 0 0, .int .i64 0, .bool false, .slice none 0 0, .int .i64 0] 54)).cell? ⟨w.heap.size, 2, none⟩ = some (.int .i64 e1) := old_cell _ (old_cell _ (new_cell2 _ _ _ _ _ _ (by simp) rfl))
  have bq0 : (((w.alloc (.cells #[.bool s1, v1, .int .i64 e1] 52)).alloc (.cells #[.bool s2, v2, .int .i64 e2] 52)).alloc (.cells #[.bool false, .slice none 0 0, .int .i64 0, .bool false, .slice none 0 0, .int .i64 0] 54)).cell? ⟨w.heap.size + 1, 0, none⟩ = some (.bool s2) := old_cell _ (new_cell2 _ _ _ _ _ _ (by simp) rfl)
  have bq1 : (((w.alloc (.cells #[.bool s1, v1, .int .i64 e1] 52)).alloc (.cells #[.bool s2, v2, .int .i64 e2] 52)).alloc (.cells #[.bool false, .slice none 0 0, .int .i64 0, .bool false, .slice none 0 0, .int .i64 0] 54)).cell? ⟨w.heap.size + 1, 1, none⟩ = some (v2) := old_cell _ (new_cell2 _ _ _ _ _ _ (by simp) rfl)
  have bq2 : (((w.alloc (.cells #[.bool s1, v1, .int .i64 e1] 52)).alloc (.cells #[.bool s2, v2, .int .i64 e2] 52)).alloc (.cells #[.bool false, .slice none 0 0, .int .i64 0, .bool false, .slice none 0 0, .int .i64 0] 54)).cell? ⟨w.heap.size + 1, 2, none⟩ = some (.int .i64 e2) := old_cell _ (new_cell2 _ _ _ _ _ _ (by simp) rfl)
  have R0 : (((w.alloc (.cells #[.bool s1, v1, .int .i64 e1] 52)).alloc (.cells #[.bool s2, v2, .int .i64 e2] 52)).alloc (.cells #[.bool false, .slice none 0 0, .int .i64 0, .bool false, .slice none 0 0, .int .i64 0] 54)).cell? ⟨w.heap.size + 2, 0, none⟩ = some (.bool false) := new_cell2 _ _ _ _ _ _ (by simp) rfl
  have Rf0 : (((w.alloc (.cells #[.bool s1, v1, .int .i64 e1] 52)).alloc (.cells #[.bool s2, v2, .int .i64 e2] 52)).alloc (.cells #[.bool false, .slice none 0 0, .int .i64 0, .bool false, .slice none 0 0, .int .i64 0] 54)).frozen? ⟨w.heap.size + 2, 0, none⟩ = false := new_loose2 _ _ _ _ _ (by simp)
  have R1 : (((w.alloc (.cells #[.bool s1, v1, .int .i64 e1] 52)).alloc (.cells #[.bool s2, v2, .int .i64 e2] 52)).alloc (.cells #[.bool false, .slice none 0 0, .int .i64 0, .bool false, .slice none 0 0, .int .i64 0] 54)).cell? ⟨w.heap.size + 2, 1, none⟩ = some (.slice none 0 0) := new_cell2 _ _ _ _ _ _ (by simp) rfl
  have Rf1 : (((w.alloc (.cells #[.bool s1, v1, .int .i64 e1] 52)).alloc (.cells #[.bool s2, v2, .int .i64 e2] 52)).alloc (.cells #[.bool false, .slice none 0 0, .int .i64 0, .bool false, .slice none 0 0, .int .i64 0] 54)).frozen? ⟨w.heap.size + 2, 1, none⟩ = false := new_loose2 _ _ _ _ _ (by simp)
  have R2 : (((w.alloc (.cells #[.bool s1, v1, .int .i64 e1] 52)).alloc (.cells #[.bool s2, v2, .int .i64 e2] 52)).alloc (.cells #[.bool false, .slice none 0 0, .int .i64 0, .bool false, .slice none 0 0, .int .i64 0] 54)).cell? ⟨w.heap.size + 2, 2, none⟩ = some (.int .i64 0) := new_cell2 _ _ _ _ _ _ (by simp) rfl
  have Rf2 : (((w.alloc (.cells #[.bool s1, v1, .int .i64 e1] 52)).alloc (.cells #[.bool s2, v2, .int .i64 e2] 52)).alloc (.cells #[.bool false, .slice none 0 0, .int .i64 0, .bool false, .slice none 0 0, .int .i64 0] 54)).frozen? ⟨w.heap.size + 2, 2, none⟩ = false := new_loose2 _ _ _ _ _ (by simp)
  have R3 : (((w.alloc (.cells #[.bool s1, v1, .int .i64 e1] 52)).alloc (.cells #[.bool s2, v2, .int .i64 e2] 52)).alloc (.cells #[.bool false, .slice none 0 0, .int .i64 0, .bool false, .slice none 0 0, .int .i64 0] 54)).cell? ⟨w.heap.size + 2, 3, none⟩ = some (.bool false) := new_cell2 _ _ _ _ _ _ (by simp) rfl
  have Rf3 : (((w.alloc (.cells #[.bool s1, v1, .int .i64 e1] 52)).alloc (.cells #[.bool s2, v2, .int .i64 e2] 52)).alloc (.cells #[.bool false, .slice none 0 0, .int .i64 0, .bool false, .slice none 0 0, .int .i64 0] 54)).frozen? ⟨w.heap.size + 2, 3, none⟩ = false := new_loose2 _ _ _ _ _ (by simp)
  have R4 : (((w.alloc (.cells #[.bool s1, v1, .int .i64 e1] 52)).alloc (.cells #[.bool s2, v2, .int .i64 e2] 52)).alloc (.cells #[.bool false, .slice none 0 0, .int .i64 0, .bool false, .slice none 0 0, .int .i64 0] 54)).cell? ⟨w.heap.size + 2, 4, none⟩ = some (.slice none 0 0) := new_cell2 _ _ _ _ _ _ (by simp) rfl
  have Rf4 : (((w.alloc (.cells #[.bool s1, v1, .int .i64 e1] 52)).alloc (.cells #[.bool s2, v2, .int .i64 e2] 52)).alloc (.cells #[.bool false, .slice none 0 0, .int .i64 0, .bool false, .slice none 0 0, .int .i64 0] 54)).frozen? ⟨w.heap.size + 2, 4, none⟩ = false := new_loose2 _ _ _ _ _ (by simp)
  have R5 : (((w.alloc (.cells #[.bool s1, v1, .int .i64 e1] 52)).alloc (.cells #[.bool s2, v2, .int .i64 e2] 52)).alloc (.cells #[.bool false, .slice none 0 0, .int .i64 0, .bool false, .slice none 0 0, .int .i64 0] 54)).cell? ⟨w.heap.size + 2, 5, none⟩ = some (.int .i64 0) := new_cell2 _ _ _ _ _ _ (by simp) rfl
  have Rf5 : (((w.alloc (.cells #[.bool s1, v1, .int .i64 e1] 52)).alloc (.cells #[.bool s2, v2, .int .i64 e2] 52)).alloc (.cells #[.bool false, .slice none 0 0, .int .i64 0, .bool false, .slice none 0 0, .int .i64 0] 54)).frozen? ⟨w.heap.size + 2, 5, none⟩ = false := new_loose2 _ _ _ _ _ (by simp)
  replace r1 := r1.kept k0 (by omega)
  replace r2 := r2.kept k0 (by omega)
  have s0 : (((w.alloc (.cells #[.bool s1, v1, .int .i64 e1] 52)).alloc (.cells #[.bool s2, v2, .int .i64 e2] 52)).alloc (.cells #[.bool false, .slice none 0 0, .int .i64 0, .bool false, .slice none 0 0, .int .i64 0] 54)).heap.size = w.heap.size + 3 := by simp
  obtain ⟨a1, c1, hv⟩ := Row.form' r1
  subst hv
  obtain ⟨a2, c2, hv⟩ := Row.form' r2
  subst hv
  have K := hide (k0)
  clear k0
  have S0 := hide s0
  clear s0
  go_enter Tryd.func21, Tryd.ntmps21
  go_wp2_with fail
  generalize (((w.alloc (.cells #[.bool s1, .slice a1 l1.length c1, .int .i64 e1] 52)).alloc (.cells #[.bool s2, .slice a2 l2.length c2, .int .i64 e2] 52)).alloc (.cells #[.bool false, .slice none 0 0, .int .i64 0, .bool false, .slice none 0 0, .int .i64 0] 54)) = W at *
  refine (ivok_impl s1 e1 hu1 hd1 s2 e2 hu2 hd2 _ r1 r2).mono ?_
  rintro e w1 ⟨rfl, k1⟩
  replace r1 := r1.kept k1 (.inr (.inr (Nat.le_refl 0)))
  replace r2 := r2.kept k1 (.inr (.inr (Nat.le_refl 0)))
  replace Rf0 := k1.loose0 (World.block_lt_of_cell? _ _ R0) Rf0
  replace Rf1 := k1.loose0 (World.block_lt_of_cell? _ _ R1) Rf1
  replace Rf2 := k1.loose0 (World.block_lt_of_cell? _ _ R2) Rf2
  replace Rf3 := k1.loose0 (World.block_lt_of_cell? _ _ R3) Rf3
  replace Rf4 := k1.loose0 (World.block_lt_of_cell? _ _ R4) Rf4
  replace Rf5 := k1.loose0 (World.block_lt_of_cell? _ _ R5) Rf5
  replace bp0 := k1.cell0 bp0
  replace bp1 := k1.cell0 bp1
  replace bp2 := k1.cell0 bp2
  replace bq0 := k1.cell0 bq0
  replace bq1 := k1.cell0 bq1
  replace bq2 := k1.cell0 bq2
  replace R0 := k1.cell0 R0
  replace R1 := k1.cell0 R1
  replace R2 := k1.cell0 R2
  replace R3 := k1.cell0 R3
  replace R4 := k1.cell0 R4
  replace R5 := k1.cell0 R5
  replace K := hide ((unhide K).trans k1)
  have z2 := k1.size
  clear k1
  cases ho : iokB s1 l1 e1 s2 l2 e2
  · have EC : Hid (CC = false) := by show _ = _; rw [← unhide HCC]; exact ivC_no (ho)
    have K7 := hide (((((((unhide K).setNew (p := ⟨w.heap.size + 2, 0, none⟩) (by simp) (.bool false)).setNew (p := ⟨w.heap.size + 2, 1, none⟩) (by simp) (.slice none 0 0)).setNew (p := ⟨w.heap.size + 2, 2, none⟩) (by simp) (.int .i64 0)).setNew (p := ⟨w.heap.size + 2, 3, none⟩) (by simp) (.bool false)).setNew (p := ⟨w.heap.size + 2, 4, none⟩) (by simp) (.slice none 0 0)).setNew (p := ⟨w.heap.size + 2, 5, none⟩) (by simp) (.int .i64 0))
    clear r1 r2 K
    go_wp2_with fail
    exact bodyPost_ret (v := .tuple #[.agg #[.bool false, .slice none 0 0, .int .i64 0, .bool false, .slice none 0 0, .int .i64 0], .bool false]) (by simp [results, Tryd.results21, go_sem, R0, R1, R2, R3, R4, R5]) rfl (by rw [unhide EC]; exact ivAns_no (unhide K7))
  obtain ⟨i1, i2, -⟩ := iok_parts ho
  have I1 := hide i1
  have I2 := hide i2
  have HO := hide ho
  clear ho i1 i2
  go_wp2_with fail
  have mk := (bothEnds_D s1 s2 e1 e2 38 in_ivof1 w1 (fun w1 kk => ivof1_impl s1 e1 (unhide I1) 3 w1 (r1.kept kk (by omega)) ((T.kept (unhide K)).kept kk)) (fun w1 kk => ivof1_impl s2 e2 (unhide I2) 2 w1 (r2.kept kk (by omega)) ((T.kept (unhide K)).kept kk))).mono (fun e w' h => ivAns_ans (unhide HO) (unhide I1) (unhide I2) h)
  rw [unhide HCC, unhide HW1, unhide HD1, unhide HQ1, unhide HW2, unhide HD2, unhide HQ2] at mk
  refine (mk).mono ?_
  rintro e w3 h5
  skip
  obtain ⟨q1, y1, M1, q2, y2, M2, vL, vM, mid, rfl, rL, rM, hm1, hm2, k5, hq⟩ := ivAns_open h5
  have HQ := hide hq
  clear hq h5
  replace r1 := r1.kept k5 (.inr (.inr (Nat.le_refl 0)))
  replace r2 := r2.kept k5 (.inr (.inr (Nat.le_refl 0)))
  replace Rf0 := k5.loose0 (World.block_lt_of_cell? _ _ R0) Rf0
  replace Rf1 := k5.loose0 (World.block_lt_of_cell? _ _ R1) Rf1
  replace Rf2 := k5.loose0 (World.block_lt_of_cell? _ _ R2) Rf2
  replace Rf3 := k5.loose0 (World.block_lt_of_cell? _ _ R3) Rf3
  replace Rf4 := k5.loose0 (World.block_lt_of_cell? _ _ R4) Rf4
  replace Rf5 := k5.loose0 (World.block_lt_of_cell? _ _ R5) Rf5
  replace bp0 := k5.cell0 bp0
  replace bp1 := k5.cell0 bp1
  replace bp2 := k5.cell0 bp2
  replace bq0 := k5.cell0 bq0
  replace bq1 := k5.cell0 bq1
  replace bq2 := k5.cell0 bq2
  replace R0 := k5.cell0 R0
  replace R1 := k5.cell0 R1
  replace R2 := k5.cell0 R2
  replace R3 := k5.cell0 R3
  replace R4 := k5.cell0 R4
  replace R5 := k5.cell0 R5
  replace K := hide ((unhide K).trans k5)
  have z4 := k5.size
  clear k5
  obtain ⟨aL, dL, hv⟩ := Row.form' rL
  subst hv
  obtain ⟨aM, dM, hv⟩ := Row.form' rM
  subst hv
  have RL := hide ((((((rL.set_other (p := ⟨w.heap.size + 2, 0, none⟩) (.inl (by have := unhide S0; dsimp only; omega)) (.bool q1)).set_other (p := ⟨w.heap.size + 2, 1, none⟩) (.inl (by have := unhide S0; dsimp only; omega)) (.slice aL M1.length dL)).set_other (p := ⟨w.heap.size + 2, 2, none⟩) (.inl (by have := unhide S0; dsimp only; omega)) (.int .i64 y1)).set_other (p := ⟨w.heap.size + 2, 3, none⟩) (.inl (by have := unhide S0; dsimp only; omega)) (.bool q2)).set_other (p := ⟨w.heap.size + 2, 4, none⟩) (.inl (by have := unhide S0; dsimp only; omega)) (.slice aM M2.length dM)).set_other (p := ⟨w.heap.size + 2, 5, none⟩) (.inl (by have := unhide S0; dsimp only; omega)) (.int .i64 y2))
  have RM := hide ((((((rM.set_other (p := ⟨w.heap.size + 2, 0, none⟩) (.inl (by have := unhide S0; dsimp only; omega)) (.bool q1)).set_other (p := ⟨w.heap.size + 2, 1, none⟩) (.inl (by have := unhide S0; dsimp only; omega)) (.slice aL M1.length dL)).set_other (p := ⟨w.heap.size + 2, 2, none⟩) (.inl (by have := unhide S0; dsimp only; omega)) (.int .i64 y1)).set_other (p := ⟨w.heap.size + 2, 3, none⟩) (.inl (by have := unhide S0; dsimp only; omega)) (.bool q2)).set_other (p := ⟨w.heap.size + 2, 4, none⟩) (.inl (by have := unhide S0; dsimp only; omega)) (.slice aM M2.length dM)).set_other (p := ⟨w.heap.size + 2, 5, none⟩) (.inl (by have := unhide S0; dsimp only; omega)) (.int .i64 y2))
  have K7 := hide (((((((unhide K).setNew (p := ⟨w.heap.size + 2, 0, none⟩) (by simp) (.bool q1)).setNew (p := ⟨w.heap.size + 2, 1, none⟩) (by simp) (.slice aL M1.length dL)).setNew (p := ⟨w.heap.size + 2, 2, none⟩) (by simp) (.int .i64 y1)).setNew (p := ⟨w.heap.size + 2, 3, none⟩) (by simp) (.bool q2)).setNew (p := ⟨w.heap.size + 2, 4, none⟩) (by simp) (.slice aM M2.length dM)).setNew (p := ⟨w.heap.size + 2, 5, none⟩) (by simp) (.int .i64 y2))
  clear r1 r2 rL rM K
  go_wp2_with fail
  have sS0 := unhide S0
  exact bodyPost_ret (v := .tuple #[.agg #[.bool q1, .slice aL M1.length dL, .int .i64 y1, .bool q2, .slice aM M2.length dM, .int .i64 y2], .bool CC]) (by simp [results, Tryd.results21, go_sem, R0, R1, R2, R3, R4, R5]) rfl (ivAns_shut (unhide HQ) ((unhide RL).wider (by omega) (Nat.le_refl _)) (unhide RM).tight (by omega) (by simp only [size_set]; omega) (unhide K7))

end Go.Proofs.YthahoabkehcgbaaDoor
