/-
  A law over matrices of intervals: an answer set down.
-/
import Derived.Test.YthahoabkehcgbaaGreatDoorqsHf1
import Derived.Deep.DeepCutAuto
import Derived.Deep.RegionHeld3
import Derived.Test.YthahoabkehcgbaaGreatDoorqsHa2
import Derived.Test.YthahoabkehcgbaaGreatDoorqsIvs2
import Derived.Test.YthahoabkehcgbaaGreatDoorqsWid1
namespace Go.Proofs.YthahoabkehcgbaaGreatDoor
open Go.RowKit
set_option linter.unusedVariables false
set_option maxRecDepth 8000
set_option linter.unusedSimpArgs false

theorem hw_sz {c : Bool} {V : Nat → Int} {L n : Int} (hc : c = true → 1 ≤ n ∧ n ≤ 4) : szT (hwL c V L n) ≤ 4000 := by
  unfold hwL
  by_cases hb : hwB c V L n = true
  · rw [if_pos hb]
    have hc2 : c = true := by unfold hwB at hb; simp only [Bool.and_eq_true] at hb; exact hb.1
    obtain ⟨g1, g4⟩ := hc hc2
    obtain ⟨k, rfl⟩ := Int.eq_ofNat_of_zero_le (show 0 ≤ n by omega)
    rw [Int.toNat_natCast]
    have h16 : k * k ≤ 4 * 4 := Nat.mul_le_mul (by omega) (by omega)
    unfold hwB allB at hb
    rw [hc2, Bool.true_and, Int.toNat_natCast, List.all_eq_true] at hb
    obtain ⟨PL, hPL⟩ : ∃ PL, PL = (List.range (2 * (k * k))).map fun q => nE (V q) L := ⟨_, rfl⟩
    have hlen : PL.length = 2 * (k * k) := by rw [hPL]; simp
    have h1 := limT_le PL (fun i hi => by
      have hi2 : i < 2 * (k * k) := by omega
      have hb2 := hb (i / 2) (List.mem_range.2 (by omega))
      rw [Bool.and_eq_true] at hb2
      rw [hPL, map_at _ _ _ hi2]
      have h5 : dOkE (nE (V i) L) = true := by
        by_cases ev : i % 2 = 0
        · have := hb2.1; rwa [show 2 * (i / 2) = i by omega] at this
        · have := hb2.2; rwa [show 2 * (i / 2) + 1 = i by omega] at this
      obtain ⟨w1', -, -, -, -⟩ := dok_parts h5
      obtain ⟨-, -, lx, -⟩ := wok_int w1'
      omega) PL.length (Nat.le_refl _)
    rw [← hPL]
    unfold szT
    omega
  · rw [if_neg hb]; decide
theorem in_heldSquare : ∀ (w : World) (args : Array Value), (callFunc 56 args).run Tryz.prog w = .ok (.enter 56 args) w := enters Tryz.func56 (by decide) (fun h => by cases h)

theorem in_toldHeld : ∀ (w : World) (args : Array Value), (callFunc 54 args).run Tryz.prog w = .ok (.enter 54 args) w := enters Tryz.func54 (by decide) (fun h => by cases h)

end Go.Proofs.YthahoabkehcgbaaGreatDoor


namespace Go.Proofs.YthahoabkehcgbaaGreatDoor
open Go.RowKit
set_option linter.unusedVariables false
set_option maxRecDepth 8000
set_option linter.unusedSimpArgs false

theorem in_plusH : ∀ (w : World) (args : Array Value), (callFunc 43 args).run Tryz.prog w = .ok (.enter 43 args) w := enters Tryz.func43 (by decide) (fun h => by cases h)

theorem bothI_no1 {n1 n2 : Int} {ds1 ds2 : List DE} {m1 m2 : Nat} (h : imokB n1 ds1 m1 = false) : bothI n1 ds1 m1 n2 ds2 m2 = false := by unfold bothI; rw [h]; rfl
theorem bothI_no2 {n1 n2 : Int} {ds1 ds2 : List DE} {m1 m2 : Nat} (h : imokB n2 ds2 m2 = false) : bothI n1 ds1 m1 n2 ds2 m2 = false := by unfold bothI; rw [h]; cases imokB n1 ds1 m1 <;> rfl
theorem bothI_no3 {n1 n2 : Int} {ds1 ds2 : List DE} {m1 m2 : Nat} (h : ¬ n1 = n2) : bothI n1 ds1 m1 n2 ds2 m2 = false := by unfold bothI; rw [decide_eq_false h]; cases imokB n1 ds1 m1 <;> cases imokB n2 ds2 m2 <;> rfl
theorem bothI_yes {n : Int} {ds1 ds2 : List DE} {m1 m2 : Nat} (h : imokB n ds1 m1 = true) (h2 : imokB n ds2 m2 = true) : bothI n ds1 m1 n ds2 m2 = true := by unfold bothI; rw [h, h2]; simp

set_option maxHeartbeats 16000000 in
theorem addOfTwo_impl {lo1 hi1 lo2 hi2 m1 m2 : Nat} {v1 v2 : Value} {ds1 ds2 : List DE} (n1 n2 : Int) (w : World) (hw1 : WfD ds1) (hw2 : WfD ds2) (r1 : Ivs lo1 hi1 w v1 ds1 m1) (r2 : Ivs lo2 hi2 w v2 ds2 m2) (T : TabB w) :
    Calls Tryz.prog 42 #[.agg #[.int .i64 n1, v1], .agg #[.int .i64 n2, v2], .func (.func 43) #[] #[]] w fun e w' => ∃ v', e = .returned (.tuple #[.agg #[.int .i64 (hwN (bothI n1 ds1 m1 n2 ds2 m2) (adV ds1 ds2) (-3000) n1), v'], .bool (hwB (bothI n1 ds1 m1 n2 ds2 m2) (adV ds1 ds2) (-3000) n1)]) ∧ IvsO w.heap.size w'.heap.size w' v' (hwL (bothI n1 ds1 m1 n2 ds2 m2) (adV ds1 ds2) (-3000) n1) (hwC (bothI n1 ds1 m1 n2 ds2 m2) (adV ds1 ds2) (-3000) n1) ∧ Kept 0 0 w w' := by
  obtain ⟨W, hW⟩ : ∃ W, W = ((w.alloc (.cells #[.int .i64 n1, v1] 28)).alloc (.cells #[.int .i64 n2, v2] 28)).alloc (.cells #[.int .i64 0, .slice none 0 0] 28) := ⟨_, rfl⟩
  have k0 : Kept 0 0 w W := by rw [hW]; exact (((Kept.refl 0 0 w).alloc _).alloc _).alloc _
  have c0 : W.cell? ⟨w.heap.size, 0, none⟩ = some (.int .i64 n1) := by rw [hW]; exact old_cell _ (old_cell _ (new_cell2 _ _ _ _ _ _ (by simp) rfl))
  have c1 : W.cell? ⟨w.heap.size, 1, none⟩ = some v1 := by rw [hW]; exact old_cell _ (old_cell _ (new_cell2 _ _ _ _ _ _ (by simp) rfl))
  have d0 : W.cell? ⟨w.heap.size + 1, 0, none⟩ = some (.int .i64 n2) := by rw [hW]; exact old_cell _ (new_cell2 _ _ _ _ _ _ (by simp) rfl)
  have d1 : W.cell? ⟨w.heap.size + 1, 1, none⟩ = some v2 := by rw [hW]; exact old_cell _ (new_cell2 _ _ _ _ _ _ (by simp) rfl)
  have q0 : W.cell? ⟨w.heap.size + 2, 0, none⟩ = some (.int .i64 0) := by rw [hW]; exact new_cell2 _ _ _ _ _ _ (by simp) rfl
  have q1 : W.cell? ⟨w.heap.size + 2, 1, none⟩ = some (.slice none 0 0) := by rw [hW]; exact new_cell2 _ _ _ _ _ _ (by simp) rfl
  have f0 : W.frozen? ⟨w.heap.size + 2, 0, none⟩ = false := by rw [hW]; exact new_loose2 _ _ _ _ _ (by simp)
  have f1 : W.frozen? ⟨w.heap.size + 2, 1, none⟩ = false := by rw [hW]; exact new_loose2 _ _ _ _ _ (by simp)
  have sW : W.heap.size = w.heap.size + 3 := by rw [hW]; simp
  have R1 := hide (r1.kept k0 (by omega))
  have R2 := hide (r2.kept k0 (by omega))
  have ho := ivMatOk_impl n1 W hw1 (unhide R1)
  have HW2 := hide hw2
  obtain ⟨a, c, rfl, -, -⟩ := r1.form
  obtain ⟨a', c', rfl, -, -⟩ := r2.form
  obtain ⟨C, hC⟩ : ∃ q, q = bothI n1 ds1 m1 n2 ds2 m2 := ⟨_, rfl⟩
  rw [← hC]
  obtain ⟨NN, hNN⟩ : ∃ q, q = hwN C (adV ds1 ds2) (-3000) n1 := ⟨_, rfl⟩
  obtain ⟨LL, hLL⟩ : ∃ q, q = hwL C (adV ds1 ds2) (-3000) n1 := ⟨_, rfl⟩
  obtain ⟨CC, hCC⟩ : ∃ q, q = hwC C (adV ds1 ds2) (-3000) n1 := ⟨_, rfl⟩
  obtain ⟨BB, hBB⟩ : ∃ q, q = hwB C (adV ds1 ds2) (-3000) n1 := ⟨_, rfl⟩
  rw [← hNN, ← hLL, ← hCC, ← hBB]
  have HNO : Hid (C = false → NN = 0 ∧ LL = [] ∧ CC = 0 ∧ BB = false) := fun h => by rw [hNN, hLL, hCC, hBB, h]; exact ⟨rfl, rfl, rfl, rfl⟩
  have HANS := hide (And.intro hNN (And.intro hLL (And.intro hCC hBB)))
  have HC := hide hC
  have TT := hide T
  rw [hW] at ho
  clear r1 r2 hC hNN hLL hCC hBB hw1 hw2 T
  go_enter Tryz.func42, Tryz.ntmps42
  go_wp2_with fail
  rw [← hW] at ho ⊢
  clear hW
  refine ho.mono ?_
  rintro e w1 ⟨rfl, k1⟩
  replace f0 := k1.loose0 (World.block_lt_of_cell? _ _ q0) f0
  replace f1 := k1.loose0 (World.block_lt_of_cell? _ _ q1) f1
  replace c0 := k1.cell0 c0
  replace c1 := k1.cell0 c1
  replace d0 := k1.cell0 d0
  replace d1 := k1.cell0 d1
  replace q0 := k1.cell0 q0
  replace q1 := k1.cell0 q1
  replace R1 := hide ((unhide R1).kept k1 (by omega))
  replace R2 := hide ((unhide R2).kept k1 (by omega))
  have K1 := hide (k0.trans k1)
  have z1 := k1.size
  clear ho k0 k1
  cases hk : imokB n1 ds1 m1
  · have HB := unhide HNO (by rw [unhide HC]; exact bothI_no1 hk)
    obtain ⟨h1, h2, h3, h4⟩ := HB
    subst h1; subst h2; subst h3; subst h4
    have K7 := hide (((unhide K1).setNew (p := ⟨w.heap.size + 2, 0, none⟩) (by dsimp only; omega) (.int .i64 0)).setNew (p := ⟨w.heap.size + 2, 1, none⟩) (by dsimp only; omega) (.slice none 0 0))
    clear R1 R2 K1 hk
    go_wp2
    exact bodyPost_ret (v := .tuple #[.agg #[.int .i64 0, .slice none 0 0], .bool false]) (by simp [results, Tryz.results42, go_sem, q0, q1]) rfl ⟨.slice none 0 0, rfl, IvsO.nil _ _ _, unhide K7⟩
  have ho2 := ivMatOk_impl n2 w1 (unhide HW2) (unhide R2)
  have HK := hide hk
  clear hk
  go_wp2_with fail
  refine ho2.mono ?_
  rintro e w2 ⟨rfl, k2⟩
  replace f0 := k2.loose0 (World.block_lt_of_cell? _ _ q0) f0
  replace f1 := k2.loose0 (World.block_lt_of_cell? _ _ q1) f1
  replace c0 := k2.cell0 c0
  replace c1 := k2.cell0 c1
  replace d0 := k2.cell0 d0
  replace d1 := k2.cell0 d1
  replace q0 := k2.cell0 q0
  replace q1 := k2.cell0 q1
  replace R1 := hide ((unhide R1).kept k2 (by omega))
  replace R2 := hide ((unhide R2).kept k2 (by omega))
  replace K1 := hide ((unhide K1).trans k2)
  have z2 := k2.size
  clear ho2 k2
  cases hd : imokB n2 ds2 m2
  · have HB := unhide HNO (by rw [unhide HC]; exact bothI_no2 hd)
    obtain ⟨h1, h2, h3, h4⟩ := HB
    subst h1; subst h2; subst h3; subst h4
    have K7 := hide (((unhide K1).setNew (p := ⟨w.heap.size + 2, 0, none⟩) (by dsimp only; omega) (.int .i64 0)).setNew (p := ⟨w.heap.size + 2, 1, none⟩) (by dsimp only; omega) (.slice none 0 0))
    clear R1 R2 K1 hd
    go_wp2
    exact bodyPost_ret (v := .tuple #[.agg #[.int .i64 0, .slice none 0 0], .bool false]) (by simp [results, Tryz.results42, go_sem, q0, q1]) rfl ⟨.slice none 0 0, rfl, IvsO.nil _ _ _, unhide K7⟩
  by_cases hs : n1 = n2
  rotate_left
  · have HB := unhide HNO (by rw [unhide HC]; exact bothI_no3 hs)
    obtain ⟨h1, h2, h3, h4⟩ := HB
    subst h1; subst h2; subst h3; subst h4
    have K7 := hide (((unhide K1).setNew (p := ⟨w.heap.size + 2, 0, none⟩) (by dsimp only; omega) (.int .i64 0)).setNew (p := ⟨w.heap.size + 2, 1, none⟩) (by dsimp only; omega) (.slice none 0 0))
    clear R1 R2 K1 hd
    go_wp2
    exact bodyPost_ret (v := .tuple #[.agg #[.int .i64 0, .slice none 0 0], .bool false]) (by simp [results, Tryz.results42, go_sem, q0, q1]) rfl ⟨.slice none 0 0, rfl, IvsO.nil _ _ _, unhide K7⟩
  subst hs
  have hCt : C = true := by rw [unhide HC]; exact bothI_yes (unhide HK) hd
  obtain ⟨u1, u2, u3, U1⟩ := imok_parts (unhide HK)
  obtain ⟨-, -, u5, U2⟩ := imok_parts hd
  obtain ⟨k, rfl⟩ := Int.eq_ofNat_of_zero_le (show 0 ≤ n1 by omega)
  have hlen : m1 = k * k := by rw [← Int.natCast_mul] at u3; omega
  have hlen2 : m2 = m1 := by rw [← Int.natCast_mul] at u5; omega
  subst hlen2
  obtain ⟨a1, a2, a3, a4⟩ := unhide HANS
  rw [hCt] at a1 a2 a3 a4
  have HU1 := hide U1
  have HU2 := hide U2
  have HV1 : Hid (∀ q, q < 2 * (k * k) → dOkE (ds1.getD q de0) = true) := fun q hq => U1 q (by omega)
  have HV2 : Hid (∀ q, q < 2 * (k * k) → dOkE (ds2.getD q de0) = true) := fun q hq => U2 q (by omega)
  have HKS := hide (show 0 < k ∧ k ≤ 4 from ⟨by omega, by omega⟩)
  have HA := hide (And.intro a1 (And.intro a2 (And.intro a3 a4)))
  have HLEN := hide hlen
  have HSZ2 := hide (show w.heap.size + 3 ≤ w2.heap.size by omega)
  clear a1 a2 a3 a4 hCt u1 u2 u3 u5 U1 U2 hlen hd HANS HNO HC HK HW2 z1 z2
  go_wp2_with fail
  have kd := (Kept.refl 0 0 w2).drew
  replace R1 := hide ((unhide R1).kept kd (by omega))
  replace R2 := hide ((unhide R2).kept kd (by omega))
  have KD := hide ((unhide K1).trans kd)
  have SZ := hide (show w.heap.size + 3 ≤ w2.drew.heap.size by show _ ≤ w2.heap.size; exact unhide HSZ2)
  replace f0 := kd.loose0 (World.block_lt_of_cell? _ _ q0) f0
  replace f1 := kd.loose0 (World.block_lt_of_cell? _ _ q1) f1
  replace c0 := kd.cell0 c0
  replace c1 := kd.cell0 c1
  replace d0 := kd.cell0 d0
  replace d1 := kd.cell0 d1
  replace q0 := kd.cell0 q0
  replace q1 := kd.cell0 q1
  clear kd K1 HSZ2
  refine wp_region_held_drew (S := (fun w' => w'.cell? ⟨w.heap.size, 0, none⟩ = some (.int .i64 (k : Int)) ∧ w'.cell? ⟨w.heap.size, 1, none⟩ = some (.slice a m2 c) ∧ w'.cell? ⟨w.heap.size + 1, 0, none⟩ = some (.int .i64 (k : Int)) ∧ w'.cell? ⟨w.heap.size + 1, 1, none⟩ = some (.slice a' m2 c'))) (by kernel_rfl) ?_ (fun hHeld => ?_)
  · exact ⟨c0, c1, d0, d1⟩
  generalize w2.drew = wd at *
  refine wpAnyH_take (i := 0) (oi := _) (v := .func (.func 43) #[] #[]) rfl (by kernel_rfl) (by kernel_rfl) (by kernel_rfl) (fun _ _ _ h => h) (Or.inl ⟨by rfl, ?_⟩) hHeld ?_
  · intro wq hSw
    try dsimp only at hSw
    go_simp
  try simp only [Act.put, List.getElem_toArray, List.getElem_cons_succ, List.getElem_cons_zero, List.setIfInBounds_toArray, List.set_cons_zero, List.set_cons_succ]
  refine wpAnyH_take (i := 1) (oi := _) (v := .agg #[.int .i64 (k : Int), .slice a m2 c]) rfl (by kernel_rfl) (by kernel_rfl) (by kernel_rfl) (fun _ _ _ h => h) (Or.inl ⟨by rfl, ?_⟩) hHeld ?_
  · intro wq hSw
    try dsimp only at hSw
    go_simp
  try simp only [Act.put, List.getElem_toArray, List.getElem_cons_succ, List.getElem_cons_zero, List.setIfInBounds_toArray, List.set_cons_zero, List.set_cons_succ]
  refine wpAnyH_take (i := 3) (oi := _) (v := .agg #[.int .i64 (k : Int), .slice a' m2 c']) rfl (by kernel_rfl) (by kernel_rfl) (by kernel_rfl) (fun _ _ _ h => h) (Or.inl ⟨by rfl, ?_⟩) hHeld ?_
  · intro wq hSw
    try dsimp only at hSw
    go_simp
  try simp only [Act.put, List.getElem_toArray, List.getElem_cons_succ, List.getElem_cons_zero, List.setIfInBounds_toArray, List.set_cons_zero, List.set_cons_succ]
  refine wpAnyH_ready (rs := [2]) (by kernel_rfl) (by simp) ?_
  refine AllReadyH.cons rfl (fun KK hK => ?_) AllReadyH.nil
  simp only [List.getElem_toArray, List.getElem_cons_succ, List.getElem_cons_zero]
  rw [if_pos (by rfl)]
  refine wps1 56 (.tmp 25) _ rfl in_heldSquare (.agg #[.int .i64 (k : Int), .slice a m2 c]) rfl (heldSquare_impl wd (by have := (unhide HKS).2; omega) (unhide HLEN) (unhide HU1) (unhide R1)) ?_
  rintro e w3 ⟨Ra, G, S, rfl, sq3, nm3, hS3, hR3, k3⟩
  refine ⟨_, rfl, ?_⟩
  have SQ := hide sq3
  have NUM := hide nm3
  replace R2 := hide ((unhide R2).kept k3 (by omega))
  have K3 := hide ((unhide KD).trans k3)
  have Z3 := hide k3.size
  replace f0 := k3.loose0 (World.block_lt_of_cell? _ _ q0) f0
  replace f1 := k3.loose0 (World.block_lt_of_cell? _ _ q1) f1
  replace c0 := k3.cell0 c0
  replace c1 := k3.cell0 c1
  replace d0 := k3.cell0 d0
  replace d1 := k3.cell0 d1
  replace q0 := k3.cell0 q0
  replace q1 := k3.cell0 q1
  clear sq3 nm3 hS3 hR3 k3 KD R1
  clear hHeld
  refine hK.out _ _ ?_ (fun hHeld => ?_)
  · exact ⟨c0, c1, d0, d1⟩
  clear hK KK
  try simp only [Act.put, List.getElem_toArray, List.getElem_cons_succ, List.getElem_cons_zero, List.setIfInBounds_toArray, List.set_cons_zero, List.set_cons_succ]
  refine wpAnyH_ready (rs := [4]) (by kernel_rfl) (by simp) ?_
  refine AllReadyH.cons rfl (fun KK hK => ?_) AllReadyH.nil
  simp only [List.getElem_toArray, List.getElem_cons_succ, List.getElem_cons_zero]
  rw [if_pos (by rfl)]
  refine wps1 56 (.tmp 27) _ rfl in_heldSquare (.agg #[.int .i64 (k : Int), .slice a' m2 c']) rfl (heldSquare_impl w3 (by have := (unhide HKS).2; omega) (unhide HLEN) (unhide HU2) (unhide R2)) ?_
  rintro e w4 ⟨Rb, Gb, Sb, rfl, sq4, nm4, hS4, hR4, k4⟩
  refine ⟨_, rfl, ?_⟩
  have SQ2 := hide sq4
  have NUM2 := hide nm4
  replace SQ := hide ((unhide SQ).kept k4)
  replace NUM := hide ((unhide NUM).mod k4.toMod)
  have K4 := hide ((unhide K3).trans k4)
  have Z4 := hide k4.size
  replace f0 := k4.loose0 (World.block_lt_of_cell? _ _ q0) f0
  replace f1 := k4.loose0 (World.block_lt_of_cell? _ _ q1) f1
  replace c0 := k4.cell0 c0
  replace c1 := k4.cell0 c1
  replace d0 := k4.cell0 d0
  replace d1 := k4.cell0 d1
  replace q0 := k4.cell0 q0
  replace q1 := k4.cell0 q1
  clear sq4 nm4 hS4 hR4 k4 K3 R2
  clear hHeld
  refine hK.out _ _ ?_ (fun hHeld => ?_)
  · exact ⟨c0, c1, d0, d1⟩
  clear hK KK
  try simp only [Act.put, List.getElem_toArray, List.getElem_cons_succ, List.getElem_cons_zero, List.setIfInBounds_toArray, List.set_cons_zero, List.set_cons_succ]
  refine wpAnyH_ready (rs := [5]) (by kernel_rfl) (by simp) ?_
  refine AllReadyH.cons rfl (fun KK hK => ?_) AllReadyH.nil
  simp only [List.getElem_toArray, List.getElem_cons_succ, List.getElem_cons_zero]
  rw [if_pos (by rfl)]
  have hpl := plusH_impl w4 (by have := (unhide HKS).2; omega) (unhide SQ) (unhide NUM) (unhide HV1) (unhide SQ2) (unhide NUM2) (unhide HV2)
  refine wpv2c 43 (.tmp 24) (.tmp 26) (.tmp 28) _ #[] rfl rfl in_plusH (.agg #[.slice (some ⟨Ra, 0, none⟩) k k]) (.agg #[.slice (some ⟨Rb, 0, none⟩) k k]) rfl rfl (show Calls _ _ (#[_, _] ++ #[]) _ _ from hpl) ?_
  rintro e w5 ⟨R', G', S', F', rfl, sq5, nm5, hQ5, k5⟩
  refine ⟨_, rfl, ?_⟩
  have SQ5 := hide sq5
  have NUM5 := hide nm5
  have HQ := hide hQ5
  have K5 := hide ((unhide K4).trans k5)
  have Z5 := hide k5.size
  replace f0 := k5.loose0 (World.block_lt_of_cell? _ _ q0) f0
  replace f1 := k5.loose0 (World.block_lt_of_cell? _ _ q1) f1
  replace c0 := k5.cell0 c0
  replace c1 := k5.cell0 c1
  replace d0 := k5.cell0 d0
  replace d1 := k5.cell0 d1
  replace q0 := k5.cell0 q0
  replace q1 := k5.cell0 q1
  clear hpl sq5 nm5 hQ5 k5 SQ NUM SQ2 NUM2
  clear hHeld
  refine hK.out _ _ ?_ (fun hHeld => ?_)
  · exact ⟨c0, c1, d0, d1⟩
  clear hK KK
  try simp only [Act.put, List.getElem_toArray, List.getElem_cons_succ, List.getElem_cons_zero, List.setIfInBounds_toArray, List.set_cons_zero, List.set_cons_succ]
  refine wpAnyH_ready (rs := [6]) (by kernel_rfl) (by simp) ?_
  refine AllReadyH.cons rfl (fun KK hK => ?_) AllReadyH.nil
  simp only [List.getElem_toArray, List.getElem_cons_succ, List.getElem_cons_zero]
  rw [if_pos (by rfl)]
  obtain ⟨hk0, hk4⟩ := unhide HKS
  have hTB := World.block_lt_of_cell? _ _ ((unhide TT) 0 (by decide))
  dsimp only at hTB
  have hsz4 : w.heap.size + 3 ≤ w4.heap.size := by have := unhide SZ; have := unhide Z3; have := unhide Z4; omega
  have ht := toldHeld_impl (b := w4.heap.size) (G := G') (F := F') hk0 (by omega) w5 (unhide SQ5) (unhide NUM5) (fun q hq => by
    have h := unhide HQ q hq
    exact ⟨h.1.2.1, by have := h.2.1; omega, by have := h.2.2; omega, by have := h.1.1; omega⟩) ((unhide TT).kept (unhide K5)) (by omega)
  obtain ⟨t1, t2, t3, t4⟩ := hw_tel (k := k) (V := adV ds1 ds2) (L := -3000) (F := F') (fun q hq => (unhide HQ q hq).1)
  obtain ⟨a1, a2, a3, a4⟩ := unhide HA
  rw [t1, t2, t3, t4, ← a1, ← a2, ← a3, ← a4] at ht
  clear t1 t2 t3 t4 a1 a2 a3 a4 hTB
  refine wps1 54 (.tmp 29) _ rfl in_toldHeld (.agg #[.slice (some ⟨R', 0, none⟩) k k]) rfl ht ?_
  rintro e w6 ⟨v6, rfl, r6, k6⟩
  refine ⟨_, rfl, ?_⟩
  obtain ⟨a6, e6, hv6⟩ := r6.form'
  subst hv6
  have R6 := hide r6
  have K6 : Hid (Kept 0 0 w w6) := (unhide K5).wide k6 (by omega)
  have Z6 := hide k6.size
  replace f0 := k6.looseOut (a := ⟨w.heap.size + 2, 0, none⟩) (.inl (by dsimp only; omega)) (World.block_lt_of_cell? _ _ q0) f0
  replace f1 := k6.looseOut (a := ⟨w.heap.size + 2, 1, none⟩) (.inl (by dsimp only; omega)) (World.block_lt_of_cell? _ _ q1) f1
  replace c0 := k6.cellOut (.inl (by dsimp only; omega)) c0
  replace c1 := k6.cellOut (.inl (by dsimp only; omega)) c1
  replace d0 := k6.cellOut (.inl (by dsimp only; omega)) d0
  replace d1 := k6.cellOut (.inl (by dsimp only; omega)) d1
  replace q0 := k6.cellOut (.inl (by dsimp only; omega)) q0
  replace q1 := k6.cellOut (.inl (by dsimp only; omega)) q1
  clear ht r6 k6 K4 K5 SQ5 NUM5 HQ
  clear hHeld
  refine hK.out _ _ ?_ (fun hHeld => ?_)
  · exact ⟨c0, c1, d0, d1⟩
  clear hK KK
  try simp only [Act.put, List.getElem_toArray, List.getElem_cons_succ, List.getElem_cons_zero, List.setIfInBounds_toArray, List.set_cons_zero, List.set_cons_succ]
  refine wpAnyH_take (i := 7) (oi := _) (v := .agg #[.int .i64 NN, .slice a6 CC e6]) rfl (by kernel_rfl) (by kernel_rfl) (by kernel_rfl) (fun _ _ _ h => h) (Or.inl ⟨by rfl, ?_⟩) hHeld ?_
  · intro wq hSw
    try dsimp only at hSw
    go_simp
  try simp only [Act.put, List.getElem_toArray, List.getElem_cons_succ, List.getElem_cons_zero, List.setIfInBounds_toArray, List.set_cons_zero, List.set_cons_succ]
  refine wpAnyH_take (i := 8) (oi := _) (v := .bool BB) rfl (by kernel_rfl) (by kernel_rfl) (by kernel_rfl) (fun _ _ _ h => h) (Or.inl ⟨by rfl, ?_⟩) hHeld ?_
  · intro wq hSw
    try dsimp only at hSw
    go_simp
  try simp only [Act.put, List.getElem_toArray, List.getElem_cons_succ, List.getElem_cons_zero, List.setIfInBounds_toArray, List.set_cons_zero, List.set_cons_succ]
  refine wpAnyH_ready (rs := [9]) (by kernel_rfl) (by simp) ?_
  refine AllReadyH.cons rfl (fun KK hK => ?_) AllReadyH.nil
  simp only [List.getElem_toArray, List.getElem_cons_succ, List.getElem_cons_zero]
  rw [if_pos (by rfl)]
  go_simp
  have ks : Kept (w.heap.size + 2) (w.heap.size + 3) w6 ((w6.setCell ⟨w.heap.size + 2, 0, none⟩ (.int .i64 NN)).setCell ⟨w.heap.size + 2, 1, none⟩ (.slice a6 CC e6)) := ((Kept.refl _ _ _).setCell (p := ⟨w.heap.size + 2, 0, none⟩) (Nat.le_refl _) (Nat.lt_succ_self _) _).setCell (p := ⟨w.heap.size + 2, 1, none⟩) (Nat.le_refl _) (Nat.lt_succ_self _) _
  replace c0 := ks.cellOut (by dsimp only; omega) c0
  replace c1 := ks.cellOut (by dsimp only; omega) c1
  replace d0 := ks.cellOut (by dsimp only; omega) d0
  replace d1 := ks.cellOut (by dsimp only; omega) d1
  clear hHeld
  refine hK.out _ _ ?_ (fun hHeld => ?_)
  · exact ⟨c0, c1, d0, d1⟩
  clear hK KK
  try simp only [Act.put, List.getElem_toArray, List.getElem_cons_succ, List.getElem_cons_zero, List.setIfInBounds_toArray, List.set_cons_zero, List.set_cons_succ]
  refine wpAnyH_take (i := 10) (oi := _) (v := .bool BB) rfl (by kernel_rfl) (by kernel_rfl) (by kernel_rfl) (fun _ _ _ h => h) (Or.inl ⟨by rfl, ?_⟩) hHeld ?_
  · intro wq hSw
    try dsimp only at hSw
    go_simp
  try simp only [Act.put, List.getElem_toArray, List.getElem_cons_succ, List.getElem_cons_zero, List.setIfInBounds_toArray, List.set_cons_zero, List.set_cons_succ]
  refine wpAnyH_done (by kernel_rfl) ?_ _
  clear hHeld
  have hsz : ((w6.setCell ⟨w.heap.size + 2, 0, none⟩ (.int .i64 NN)).setCell ⟨w.heap.size + 2, 1, none⟩ (.slice a6 CC e6)).heap.size = w6.heap.size := by rw [size_set, size_set]
  have hz5 : w4.heap.size ≤ w5.heap.size := unhide Z5
  have R9 := hide (((unhide R6).kept ks (by omega)).wider (lo' := w.heap.size) (hi' := ((w6.setCell ⟨w.heap.size + 2, 0, none⟩ (.int .i64 NN)).setCell ⟨w.heap.size + 2, 1, none⟩ (.slice a6 CC e6)).heap.size) (by omega) (by omega))
  have K9 := hide ((unhide K6).wide ks (by omega))
  have G0 := cell_off _ _ _ 1 (.slice a6 CC e6) _ (cell_on _ _ _ (.int .i64 NN) _ q0) (show (0 : Nat) ≠ 1 by omega)
  have G1 := cell_on _ _ _ (.slice a6 CC e6) _ (cell_off _ _ _ 0 (.int .i64 NN) _ q1 (show (1 : Nat) ≠ 0 by omega))
  clear ks hsz R6 K6 c0 c1 d0 d1 hz5
  go_wp2_with fail
  exact bodyPost_ret (v := .tuple #[.agg #[.int .i64 NN, .slice a6 CC e6], .bool BB]) (by simp [results, Tryz.results42, go_sem, G0, G1]) rfl ⟨.slice a6 CC e6, rfl, unhide R9, unhide K9⟩

set_option maxHeartbeats 8000000 in
theorem ivMatAdd_impl {lo1 hi1 lo2 hi2 m1 m2 : Nat} {v1 v2 : Value} {ds1 ds2 : List DE} (n1 n2 : Int) (w : World) (hw1 : WfD ds1) (hw2 : WfD ds2) (r1 : Ivs lo1 hi1 w v1 ds1 m1) (r2 : Ivs lo2 hi2 w v2 ds2 m2) (T : TabB w) :
    Calls Tryz.prog 13 #[.agg #[.int .i64 n1, v1], .agg #[.int .i64 n2, v2]] w fun e w' => ∃ v', e = .returned (.tuple #[.agg #[.int .i64 (hwN (bothI n1 ds1 m1 n2 ds2 m2) (adV ds1 ds2) (-3000) n1), v'], .bool (hwB (bothI n1 ds1 m1 n2 ds2 m2) (adV ds1 ds2) (-3000) n1)]) ∧ IvsO w.heap.size w'.heap.size w' v' (hwL (bothI n1 ds1 m1 n2 ds2 m2) (adV ds1 ds2) (-3000) n1) (hwC (bothI n1 ds1 m1 n2 ds2 m2) (adV ds1 ds2) (-3000) n1) ∧ Kept 0 0 w w' := by
  obtain ⟨W, hW⟩ : ∃ W, W = ((w.alloc (.cells #[.int .i64 n1, v1] 28)).alloc (.cells #[.int .i64 n2, v2] 28)).alloc (.cells #[.int .i64 0, .slice none 0 0] 28) := ⟨_, rfl⟩
  have k0 : Kept 0 0 w W := by rw [hW]; exact (((Kept.refl 0 0 w).alloc _).alloc _).alloc _
  have c0 : W.cell? ⟨w.heap.size, 0, none⟩ = some (.int .i64 n1) := by rw [hW]; exact old_cell _ (old_cell _ (new_cell2 _ _ _ _ _ _ (by simp) rfl))
  have c1 : W.cell? ⟨w.heap.size, 1, none⟩ = some v1 := by rw [hW]; exact old_cell _ (old_cell _ (new_cell2 _ _ _ _ _ _ (by simp) rfl))
  have d0 : W.cell? ⟨w.heap.size + 1, 0, none⟩ = some (.int .i64 n2) := by rw [hW]; exact old_cell _ (new_cell2 _ _ _ _ _ _ (by simp) rfl)
  have d1 : W.cell? ⟨w.heap.size + 1, 1, none⟩ = some v2 := by rw [hW]; exact old_cell _ (new_cell2 _ _ _ _ _ _ (by simp) rfl)
  have q0 : W.cell? ⟨w.heap.size + 2, 0, none⟩ = some (.int .i64 0) := by rw [hW]; exact new_cell2 _ _ _ _ _ _ (by simp) rfl
  have q1 : W.cell? ⟨w.heap.size + 2, 1, none⟩ = some (.slice none 0 0) := by rw [hW]; exact new_cell2 _ _ _ _ _ _ (by simp) rfl
  have f0 : W.frozen? ⟨w.heap.size + 2, 0, none⟩ = false := by rw [hW]; exact new_loose2 _ _ _ _ _ (by simp)
  have f1 : W.frozen? ⟨w.heap.size + 2, 1, none⟩ = false := by rw [hW]; exact new_loose2 _ _ _ _ _ (by simp)
  have sW : W.heap.size = w.heap.size + 3 := by rw [hW]; simp
  have ht := addOfTwo_impl n1 n2 W hw1 hw2 (r1.kept k0 (by omega)) (r2.kept k0 (by omega)) (T.kept k0)
  obtain ⟨a, c, rfl, -, -⟩ := r1.form
  obtain ⟨a', c', rfl, -, -⟩ := r2.form
  obtain ⟨NN, hNN⟩ : ∃ q, q = hwN (bothI n1 ds1 m1 n2 ds2 m2) (adV ds1 ds2) (-3000) n1 := ⟨_, rfl⟩
  obtain ⟨LL, hLL⟩ : ∃ q, q = hwL (bothI n1 ds1 m1 n2 ds2 m2) (adV ds1 ds2) (-3000) n1 := ⟨_, rfl⟩
  obtain ⟨CC, hCC⟩ : ∃ q, q = hwC (bothI n1 ds1 m1 n2 ds2 m2) (adV ds1 ds2) (-3000) n1 := ⟨_, rfl⟩
  obtain ⟨BB, hBB⟩ : ∃ q, q = hwB (bothI n1 ds1 m1 n2 ds2 m2) (adV ds1 ds2) (-3000) n1 := ⟨_, rfl⟩
  rw [← hNN, ← hLL, ← hCC, ← hBB] at ht ⊢
  have K0 := hide k0
  have SW := hide sW
  rw [hW] at ht
  clear r1 r2 hNN hLL hCC hBB hw1 hw2 T k0 sW
  go_enter Tryz.func13, Tryz.ntmps13
  go_wp2_with fail
  rw [← hW] at ht ⊢
  clear hW
  refine ht.mono ?_
  rintro e w5 ⟨v5, rfl, r5, k5⟩
  obtain ⟨a5, e5, hv5⟩ := r5.form'
  subst hv5
  replace f0 := k5.loose0 (World.block_lt_of_cell? _ _ q0) f0
  replace f1 := k5.loose0 (World.block_lt_of_cell? _ _ q1) f1
  replace q0 := k5.cell0 q0
  replace q1 := k5.cell0 q1
  have z5 := k5.size
  have sW := unhide SW
  have ks : Kept (w.heap.size + 2) (w.heap.size + 3) w5 ((w5.setCell ⟨w.heap.size + 2, 0, none⟩ (.int .i64 NN)).setCell ⟨w.heap.size + 2, 1, none⟩ (.slice a5 CC e5)) := ((Kept.refl _ _ _).setCell (p := ⟨w.heap.size + 2, 0, none⟩) (Nat.le_refl _) (Nat.lt_succ_self _) _).setCell (p := ⟨w.heap.size + 2, 1, none⟩) (Nat.le_refl _) (Nat.lt_succ_self _) _
  have K7 := hide (((unhide K0).trans k5).wide ks (by omega))
  have hsz : ((w5.setCell ⟨w.heap.size + 2, 0, none⟩ (.int .i64 NN)).setCell ⟨w.heap.size + 2, 1, none⟩ (.slice a5 CC e5)).heap.size = w5.heap.size := by rw [size_set, size_set]
  have R7 := hide ((r5.kept ks (by omega)).wider (lo' := w.heap.size) (hi' := ((w5.setCell ⟨w.heap.size + 2, 0, none⟩ (.int .i64 NN)).setCell ⟨w.heap.size + 2, 1, none⟩ (.slice a5 CC e5)).heap.size) (by omega) (by omega))
  clear ht r5 k5 ks hsz K0 sW z5 c0 c1 d0 d1
  go_wp2
  exact bodyPost_ret (v := .tuple #[.agg #[.int .i64 NN, .slice a5 CC e5], .bool BB]) (by simp [results, Tryz.results13, go_sem, q0, q1]) rfl ⟨.slice a5 CC e5, rfl, unhide R7, unhide K7⟩

end Go.Proofs.YthahoabkehcgbaaGreatDoor


namespace Go.Proofs.YthahoabkehcgbaaGreatDoor
open Go.RowKit
set_option linter.unusedVariables false
set_option maxRecDepth 8000

theorem law_setX {cur w9 : World} {X : Nat} {v z z' : Value} {zs : List DE} {b hi n : Nat} (s : Int) (k : Kept 0 0 cur w9) (c : w9.cell? ⟨X, 0, none⟩ = some z) (c' : w9.cell? ⟨X, 1, none⟩ = some z') (r : IvsO b hi w9 v zs n) (hX : cur.heap.size ≤ X) (hb : X < b ∨ hi ≤ X) (hc : cur.heap.size ≤ b) (hh : hi ≤ w9.heap.size) :
    ((w9.setCell ⟨X, 0, none⟩ (.int .i64 s)).setCell ⟨X, 1, none⟩ v).cell? ⟨X, 0, none⟩ = some (.int .i64 s) ∧ ((w9.setCell ⟨X, 0, none⟩ (.int .i64 s)).setCell ⟨X, 1, none⟩ v).cell? ⟨X, 1, none⟩ = some v ∧ IvsO cur.heap.size ((w9.setCell ⟨X, 0, none⟩ (.int .i64 s)).setCell ⟨X, 1, none⟩ v).heap.size ((w9.setCell ⟨X, 0, none⟩ (.int .i64 s)).setCell ⟨X, 1, none⟩ v) v zs n ∧ cur.heap.size ≤ X ∧ X < ((w9.setCell ⟨X, 0, none⟩ (.int .i64 s)).setCell ⟨X, 1, none⟩ v).heap.size ∧ Kept 0 0 cur ((w9.setCell ⟨X, 0, none⟩ (.int .i64 s)).setCell ⟨X, 1, none⟩ v) := by
  have e1 : (w9.setCell ⟨X, 0, none⟩ (.int .i64 s)).cell? ⟨X, 0, none⟩ = some (.int .i64 s) := cell_on _ _ _ _ _ c
  have e2 := cell_set w9 X 1 0 (.int .i64 s) z' c'
  rw [if_neg (by decide)] at e2
  have e3 := cell_set _ X 0 1 v _ e1
  rw [if_neg (by decide)] at e3
  have e4 := cell_set _ X 1 1 v _ e2
  rw [if_pos rfl] at e4
  have ks : Kept X (X + 1) w9 ((w9.setCell ⟨X, 0, none⟩ (.int .i64 s)).setCell ⟨X, 1, none⟩ v) :=
    ((Kept.refl _ _ _).setCell (p := ⟨X, 0, none⟩) (Nat.le_refl _) (Nat.lt_succ_self _) _).setCell (p := ⟨X, 1, none⟩) (Nat.le_refl _) (Nat.lt_succ_self _) _
  have hsz : ((w9.setCell ⟨X, 0, none⟩ (.int .i64 s)).setCell ⟨X, 1, none⟩ v).heap.size = w9.heap.size := by rw [size_set, size_set]
  exact ⟨e3, e4, (r.kept ks (by omega)).wider hc (by rw [hsz]; exact hh), hX, by have := World.block_lt_of_cell? _ _ c; simpa [World.setCell] using this, (k.setNew (p := ⟨X, 0, none⟩) hX _).setNew (p := ⟨X, 1, none⟩) hX v⟩

theorem in_spec_IvMatAdd : ∀ (w : World) (args : Array Value), (callFunc 11 args).run Tryz.prog w = .ok (.enter 11 args) w := enters Tryz.func11 (by decide) (fun h => by cases h)

theorem in_impl_IvMatAdd : ∀ (w : World) (args : Array Value), (callFunc 13 args).run Tryz.prog w = .ok (.enter 13 args) w := enters Tryz.func13 (by decide) (fun h => by cases h)

end Go.Proofs.YthahoabkehcgbaaGreatDoor

