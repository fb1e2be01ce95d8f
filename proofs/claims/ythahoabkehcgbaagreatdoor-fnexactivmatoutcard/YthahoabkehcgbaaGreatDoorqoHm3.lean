/-
  IvMatFat of the model.
-/
import Derived.Test.YthahoabkehcgbaaGreatDoorqoWid1
import Derived.Test.YthahoabkehcgbaaGreatDoorqoIvs2
import Derived.Deep.DeepCutAuto
import Derived.Deep.RegionHeld3
import Derived.Test.YthahoabkehcgbaaGreatDoorqoWrk2
import Derived.Test.YthahoabkehcgbaaGreatDoorqoDys6
import Derived.Test.YthahoabkehcgbaaGreatDoorqoDys4
import Derived.Test.YthahoabkehcgbaaGreatDoorqoBC
import Derived.Test.YthahoabkehcgbaaGreatDoorqoIWCmp
namespace Go.Proofs.YthahoabkehcgbaaGreatDoor
open Go.RowKit
set_option linter.unusedVariables false
set_option maxRecDepth 8000
set_option linter.unusedSimpArgs false

set_option maxHeartbeats 4000000 in
theorem new10_spec {k : Nat} (hk : k ≤ 4) (w : World) (EL : List DE) :
    Calls Tryz.prog 87 #[.int .i64 (k : Int)] w fun e w' => ∃ g, e = .returned (.agg #[.int .i64 (k : Int), .slice (some ⟨g, 0, none⟩) (k * k) (k * k)]) ∧ Fill 0 g (2 * (k * k)) EL (2 * 0) w' ∧ w.heap.size ≤ g ∧ Kept 0 0 w w' := by
  obtain ⟨W, hW⟩ : ∃ W, W = w.alloc (.cells #[.int .i64 0, .slice none 0 0] 28) := ⟨_, rfl⟩
  have k0 : Kept 0 0 w W := by rw [hW]; exact (Kept.refl 0 0 w).alloc _
  have R0 : W.cell? ⟨w.heap.size, 0, none⟩ = some (.int .i64 0) := by rw [hW]; exact new_cell2 _ _ _ _ _ _ rfl rfl
  have R1 : W.cell? ⟨w.heap.size, 1, none⟩ = some (.slice none 0 0) := by rw [hW]; exact new_cell2 _ _ _ _ _ _ rfl rfl
  have Rf0 : W.frozen? ⟨w.heap.size, 0, none⟩ = false := by rw [hW]; exact new_loose2 _ _ _ _ _ rfl
  have Rf1 : W.frozen? ⟨w.heap.size, 1, none⟩ = false := by rw [hW]; exact new_loose2 _ _ _ _ _ rfl
  have sW : W.heap.size = w.heap.size + 1 := by rw [hW]; simp
  have h16 : k * k ≤ 4 * 4 := Nat.mul_le_mul hk hk
  have hwr : IntKind.i64.wrap ((k : Int) * (k : Int)) = ((k * k : Nat) : Int) := by rw [IntKind.wrap_i64, ← Int.natCast_mul]; omega
  obtain ⟨n, hn⟩ : ∃ n, n = k * k := ⟨_, rfl⟩
  rw [← hn] at hwr h16 ⊢
  obtain ⟨i0, hi0, hz0, hz1, hz2⟩ := info_parts Tryz.infoIv
  have hb0 : i0.bytes * n ≤ 281474976710656 := by rw [hz2]; omega
  have hm0 : n ≤ maxLen := by unfold maxLen; omega
  have SW := hide sW
  clear hn sW
  go_enter Tryz.func87, Tryz.ntmps87
  go_wp2_with (at_make; rw [← hW]; refine wpList_make_full _ rfl _ _ 26 rfl W.heap.size 102 i0 (.agg #[.bool false, .slice none 0 0, .int .i64 0, .bool false, .slice none 0 0, .int .i64 0]) 6 Tryz.underlying26 hi0 hz0 hz1 .i64 .i64 _ _ n rfl rfl rfl rfl hb0 hm0 (Nat.le_refl _) ?_; intro w1 hown hgrow; have R0' := R0; have k1 : Kept 0 0 W w1 := ⟨hgrow.os, hgrow.tape, hgrow.output, hgrow.size, fun i hi _ => hgrow.block i hi (by simp)⟩; replace R0' := k1.cell0 R0; have R1' := k1.cell0 R1; have Rf0' := k1.loose0 (World.block_lt_of_cell? _ _ R0) Rf0; have Rf1' := k1.loose0 (World.block_lt_of_cell? _ _ R1) Rf1; have F0 := hide (made_fill6F (w := W) (ds := EL) hown); clear hown hgrow)
  have sW := unhide SW
  rw [sW] at F0
  have ks : Kept w.heap.size (w.heap.size + 1) w1 ((w1.setCell ⟨w.heap.size, 0, none⟩ (.int .i64 (k : Int))).setCell ⟨w.heap.size, 1, none⟩ (.slice (some ⟨w.heap.size + 1, 0, none⟩) n n)) :=
    ((Kept.refl _ _ _).setCell (p := ⟨w.heap.size, 0, none⟩) (Nat.le_refl _) (Nat.lt_succ_self _) _).setCell (p := ⟨w.heap.size, 1, none⟩) (Nat.le_refl _) (Nat.lt_succ_self _) _
  have F1 := hide ((unhide F0).keptW ks (by omega))
  have K7 := hide ((k0.trans k1).wide ks (Nat.le_refl _))
  have G0 := cell_off _ _ _ 1 (.slice (some ⟨w.heap.size + 1, 0, none⟩) n n) _ (cell_on _ _ _ (.int .i64 (k : Int)) _ R0') (show (0 : Nat) ≠ 1 by omega)
  have G1 := cell_on _ _ _ (.slice (some ⟨w.heap.size + 1, 0, none⟩) n n) _ (cell_off _ _ _ 0 (.int .i64 (k : Int)) _ R1' (show (1 : Nat) ≠ 0 by omega))
  exact bodyPost_ret (v := .agg #[.int .i64 (k : Int), .slice (some ⟨w.heap.size + 1, 0, none⟩) n n]) (by simp [results, Tryz.results87, go_sem, G0, G1]) rfl ⟨w.heap.size + 1, rfl, unhide F1, by omega, unhide K7⟩

def f10N (n : Int) (ds : List DE) (m : Nat) : Int := if imokB n ds m = true then n else 0
def f10L (n : Int) (ds : List DE) (m : Nat) : List DE := if imokB n ds m = true then ds else []
def f10C (n : Int) (ds : List DE) (m : Nat) : Nat := if imokB n ds m = true then m else 0
theorem f10_yes {n : Int} {ds : List DE} {m : Nat} (h : imokB n ds m = true) : f10N n ds m = n ∧ f10L n ds m = ds ∧ f10C n ds m = m := by
  unfold f10N f10L f10C; rw [if_pos h, if_pos h, if_pos h]; exact ⟨rfl, rfl, rfl⟩
theorem f10_no {n : Int} {ds : List DE} {m : Nat} (h : imokB n ds m = false) : f10N n ds m = 0 ∧ f10L n ds m = [] ∧ f10C n ds m = 0 := by
  unfold f10N f10L f10C; rw [if_neg (by rw [h]; simp), if_neg (by rw [h]; simp), if_neg (by rw [h]; simp)]; exact ⟨rfl, rfl, rfl⟩
theorem imok_k {n : Int} {ds : List DE} {m : Nat} (h : imokB n ds m = true) : ∃ k : Nat, n = (k : Int) ∧ 0 < k ∧ k ≤ 4 ∧ m = k * k := by
  unfold imokB at h
  simp only [Bool.and_eq_true, decide_eq_true_eq] at h
  obtain ⟨⟨h1, h2⟩, h3, -⟩ := h
  obtain ⟨k, rfl⟩ := Int.eq_ofNat_of_zero_le (show 0 ≤ n by omega)
  refine ⟨k, rfl, by omega, by omega, ?_⟩
  rw [← Int.natCast_mul] at h3; omega

set_option maxHeartbeats 16000000 in
theorem fits10_spec {lo hi m : Nat} {v : Value} {ds : List DE} (n : Int) (w : World) (hw : WfD ds) (hwn : AllWN ds) (r : Ivs lo hi w v ds m) :
    Calls Tryz.prog 39 #[.agg #[.int .i64 n, v]] w fun e w' => ∃ v', e = .returned (.tuple #[.agg #[.int .i64 (f10N n ds m), v'], .bool (imokB n ds m)]) ∧ IvsO w.heap.size w'.heap.size w' v' (f10L n ds m) (f10C n ds m) ∧ Kept 0 0 w w' := by
  obtain ⟨W, hW⟩ : ∃ W, W = (w.alloc (.cells #[.int .i64 n, v] 28)).alloc (.cells #[.int .i64 0, .slice none 0 0] 28) := ⟨_, rfl⟩
  have k0 : Kept 0 0 w W := by rw [hW]; exact ((Kept.refl 0 0 w).alloc _).alloc _
  have c0 : W.cell? ⟨w.heap.size, 0, none⟩ = some (.int .i64 n) := by rw [hW]; exact old_cell _ (new_cell2 _ _ _ _ _ _ (by simp) rfl)
  have c1 : W.cell? ⟨w.heap.size, 1, none⟩ = some v := by rw [hW]; exact old_cell _ (new_cell2 _ _ _ _ _ _ (by simp) rfl)
  have q0 : W.cell? ⟨w.heap.size + 1, 0, none⟩ = some (.int .i64 0) := by rw [hW]; exact new_cell2 _ _ _ _ _ _ (by simp) rfl
  have q1 : W.cell? ⟨w.heap.size + 1, 1, none⟩ = some (.slice none 0 0) := by rw [hW]; exact new_cell2 _ _ _ _ _ _ (by simp) rfl
  have f0 : W.frozen? ⟨w.heap.size + 1, 0, none⟩ = false := by rw [hW]; exact new_loose2 _ _ _ _ _ (by simp)
  have f1 : W.frozen? ⟨w.heap.size + 1, 1, none⟩ = false := by rw [hW]; exact new_loose2 _ _ _ _ _ (by simp)
  have sW : W.heap.size = w.heap.size + 2 := by rw [hW]; simp
  have r0 := r.kept k0 (by omega)
  have ho := ivMatOk_spec n W hw r0
  obtain ⟨NN, hNN⟩ : ∃ q, q = f10N n ds m := ⟨_, rfl⟩
  obtain ⟨LL, hLL⟩ : ∃ q, q = f10L n ds m := ⟨_, rfl⟩
  obtain ⟨CC, hCC⟩ : ∃ q, q = f10C n ds m := ⟨_, rfl⟩
  obtain ⟨BB, hBB⟩ : ∃ q, q = imokB n ds m := ⟨_, rfl⟩
  rw [← hBB] at ho
  rw [← hNN, ← hLL, ← hCC, ← hBB]
  have HYES : Hid (BB = true → NN = n ∧ LL = ds ∧ CC = m) := fun h => by rw [hNN, hLL, hCC]; exact f10_yes (by rw [← hBB]; exact h)
  have HNO : Hid (BB = false → NN = 0 ∧ LL = [] ∧ CC = 0) := fun h => by rw [hNN, hLL, hCC]; exact f10_no (by rw [← hBB]; exact h)
  have HKK : Hid (BB = true → ∃ k : Nat, n = (k : Int) ∧ 0 < k ∧ k ≤ 4 ∧ m = k * k) := fun h => imok_k (by rw [← hBB]; exact h)
  have HWN := hide hwn
  have HLEN : Hid (ds.length = 2 * m) := by obtain ⟨_, _, _, _, _, q, _⟩ := r; exact q
  obtain ⟨a, c, rfl, -, -⟩ := r.form
  have RW := hide r
  rw [hW] at ho
  clear r hNN hLL hCC hBB hw hwn
  go_enter Tryz.func39, Tryz.ntmps39
  go_wp2_with fail
  rw [← hW] at ho ⊢
  clear hW
  refine ho.mono ?_
  rintro e w1 ⟨rfl, k1⟩
  replace f0 := k1.loose0 (World.block_lt_of_cell? _ _ q0) f0
  replace f1 := k1.loose0 (World.block_lt_of_cell? _ _ q1) f1
  replace c0 := k1.cell0 c0
  replace c1 := k1.cell0 c1
  replace q0 := k1.cell0 q0
  replace q1 := k1.cell0 q1
  have K1 := hide (k0.trans k1)
  have z1 := k1.size
  clear ho k0 k1 r0
  cases hk : BB
  · have K7 := hide (((unhide K1).setNew (p := ⟨w.heap.size + 1, 0, none⟩) (by simp) (.int .i64 0)).setNew (p := ⟨w.heap.size + 1, 1, none⟩) (by simp) (.slice none 0 0))
    have HB := hide (unhide HNO hk)
    clear RW K1
    subst hk
    go_wp2
    exact bodyPost_ret (v := .tuple #[.agg #[.int .i64 0, .slice none 0 0], .bool false]) (by simp [results, Tryz.results39, go_sem, q0, q1]) rfl ⟨.slice none 0 0, by rw [(unhide HB).1], by rw [(unhide HB).2.1, (unhide HB).2.2]; exact IvsO.nil _ _ _, unhide K7⟩
  subst hk
  obtain ⟨k, hnk, hk0, hk4, hmk⟩ := unhide HKK rfl
  have HY := hide (unhide HYES rfl)
  clear HYES HNO HKK
  subst hnk
  have hn10 := new10_spec hk4 w1 ds
  rw [← hmk] at hn10
  have h16 : m ≤ 4 * 4 := by rw [hmk]; exact Nat.mul_le_mul hk4 hk4
  have S1 : Hid (w.heap.size + 2 ≤ w1.heap.size) := by show _ ≤ _; omega
  clear hmk z1 sW
  go_wp2_with fail
  refine hn10.mono ?_
  rintro e w2 ⟨g, rfl, F0, hg, k2⟩
  clear hn10
  obtain ⟨O, hO⟩ : ∃ O, O = w2.heap.size := ⟨_, rfl⟩
  have o0 : (w2.alloc (.cells #[.int .i64 (k : Int), .slice (some ⟨g, 0, none⟩) m m] 28)).cell? ⟨O, 0, none⟩ = some (.int .i64 (k : Int)) := new_cell2 _ _ _ _ _ _ hO rfl
  have o1 : (w2.alloc (.cells #[.int .i64 (k : Int), .slice (some ⟨g, 0, none⟩) m m] 28)).cell? ⟨O, 1, none⟩ = some (.slice (some ⟨g, 0, none⟩) m m) := new_cell2 _ _ _ _ _ _ hO rfl
  have k3 := (Kept.refl 0 0 w2).alloc (.cells #[.int .i64 (k : Int), .slice (some ⟨g, 0, none⟩) m m] 28)
  have hgO : g < O := by have := F0.lt; omega
  have kk := k2.trans k3
  have c1' := kk.cell0 c1
  have q0' := kk.cell0 q0
  have q1' := kk.cell0 q1
  have f0' := kk.loose0 (World.block_lt_of_cell? _ _ q0) f0
  have f1' := kk.loose0 (World.block_lt_of_cell? _ _ q1) f1
  have F1 := hide (F0.kept k3)
  have K2 := hide ((unhide K1).trans kk)
  have HGW : Hid (w.heap.size + 2 ≤ g) := by show _ ≤ _; have := unhide S1; omega
  have HGO := hide hgO
  clear F0 k2 k3 kk c0 c1 q0 q1 f0 f1 hg hgO K1
  go_wp2_with fail
  rw [← hO]
  generalize (w2.alloc (.cells #[.int .i64 (k : Int), .slice (some ⟨g, 0, none⟩) m m] 28)) = w3 at *
  clear hO
  go_loopw [5] (fun s5 wr => ∃ j : Nat, s5 = .int .i64 j ∧ j ≤ m ∧ Hid (Fill 0 g (2 * m) ds (2 * j) wr) ∧ Hid (Kept 0 0 w wr) ∧ Hid (Kept g (g + 1) w3 wr)) (fun s5 _ => m - (intOf s5).toNat)
  case atStart => exact ⟨0, rfl, Nat.zero_le _, F1, K2, Kept.refl _ _ _⟩
  case round =>
    clear F1 K2
    obtain ⟨j, rfl, hj, hF, kw, kg⟩ := hrel
    have hwj : IntKind.i64.wrap ((j : Int) + 1) = ((j + 1 : Nat) : Int) := by rw [IntKind.wrap_i64]; omega
    have hgw := unhide HGW
    have hgo := unhide HGO
    have C1 := (unhide kg).cellOut (a := ⟨w.heap.size, 1, none⟩) (by dsimp only; omega) c1'
    by_cases hlt : j < m
    · have kgd := (unhide kg).drew
      have kd := (unhide kw).drew
      have O1 := kgd.cellOut (a := ⟨O, 1, none⟩) (by dsimp only; omega) o1
      have A1 := kgd.cellOut (a := ⟨w.heap.size, 1, none⟩) (by dsimp only; omega) c1'
      obtain ⟨gA, off, l0, l1, rfl, -, -, hgA, b, kb, b', kb', m0, m1, m2, m3, m4, m5, hln0, hln1, rr0, rr1⟩ := (unhide RW).at (i := j) hlt
      obtain ⟨wn0, wl0⟩ := unhide HWN (2 * j) (by have := unhide HLEN; omega)
      obtain ⟨wn1, wl1⟩ := unhide HWN (2 * j + 1) (by have := unhide HLEN; omega)
      obtain ⟨⟨s0, z0, y0⟩, hE0⟩ : ∃ q, ds.getD (2 * j) de0 = q := ⟨_, rfl⟩
      obtain ⟨⟨s1, z1, y1⟩, hE1⟩ : ∃ q, ds.getD (2 * j + 1) de0 = q := ⟨_, rfl⟩
      rw [hE0] at m0 m2 hln0 rr0 wn0 wl0
      rw [hE1] at m3 m5 hln1 rr1 wn1 wl1
      dsimp only at m0 m2 hln0 rr0 m3 m5 hln1 rr1 wn0 wl0 wn1 wl1
      replace m0 := kd.cell0 m0
      replace m1 := kd.cell0 m1
      replace m2 := kd.cell0 m2
      replace m3 := kd.cell0 m3
      replace m4 := kd.cell0 m4
      replace m5 := kd.cell0 m5
      have HF := hide ((unhide hF).kept ((Kept.refl 0 0 wr).drew))
      have T0 := hide (rr0.kept kd (by omega))
      have T1 := hide (rr1.kept kd (by omega))
      have WN0 := hide (And.intro wn0 wl0)
      have WN1 := hide (And.intro wn1 wl1)
      have E0 := hide hE0
      have E1 := hide hE1
      have KD := hide kd
      have KGD := hide kgd
      have KZ := hide (Kept.refl 0 0 wr.drew)
      clear hln0 hln1 rr0 rr1 wn0 wl0 wn1 wl1 hE0 hE1 kd kgd hF kw kg
      go_wp2_with fail
      refine wp_region_held_drew (S := (fun w' => w'.cell? ⟨O, 1, none⟩ = some (.slice (some ⟨g, 0, none⟩) m m) ∧ w'.cell? ⟨w.heap.size, 1, none⟩ = some (.slice (some ⟨gA, off, none⟩) m c) ∧ w'.cell? ⟨gA, off + j * 6, none⟩ = some (.bool s0) ∧ w'.cell? ⟨gA, off + j * 6 + 1, none⟩ = some (.slice b l0 kb) ∧ w'.cell? ⟨gA, off + j * 6 + 2, none⟩ = some (.int .i64 y0) ∧ w'.cell? ⟨gA, off + j * 6 + 3, none⟩ = some (.bool s1) ∧ w'.cell? ⟨gA, off + j * 6 + 4, none⟩ = some (.slice b' l1 kb') ∧ w'.cell? ⟨gA, off + j * 6 + 5, none⟩ = some (.int .i64 y1))) (by kernel_rfl) ?_ (fun hHeld => ?_)
      · exact ⟨O1, A1, m0, m1, m2, m3, m4, m5⟩
      generalize wr.drew = wd at *
      refine wpAnyH_take (i := 0) (oi := _) (v := .pointer (some ⟨O, 1, none⟩)) rfl (by kernel_rfl) (by kernel_rfl) (by kernel_rfl) (fun _ _ _ h => h) (Or.inl ⟨by rfl, ?_⟩) hHeld ?_
      · intro wq hSw
        try dsimp only at hSw
        go_simp
      try simp only [Act.put, List.getElem_toArray, List.getElem_cons_succ, List.getElem_cons_zero, List.setIfInBounds_toArray, List.set_cons_zero, List.set_cons_succ]
      refine wpAnyH_take (i := 1) (oi := _) (v := .slice (some ⟨g, 0, none⟩) m m) rfl (by kernel_rfl) (by kernel_rfl) (by kernel_rfl) (fun _ _ _ h => h) (Or.inl ⟨by rfl, ?_⟩) hHeld ?_
      · intro wq hSw
        try dsimp only at hSw
        go_simp
      try simp only [Act.put, List.getElem_toArray, List.getElem_cons_succ, List.getElem_cons_zero, List.setIfInBounds_toArray, List.set_cons_zero, List.set_cons_succ]
      refine wpAnyH_take (i := 2) (oi := _) (v := .int .i64 (j : Int)) rfl (by kernel_rfl) (by kernel_rfl) (by kernel_rfl) (fun _ _ _ h => h) (Or.inl ⟨by rfl, ?_⟩) hHeld ?_
      · intro wq hSw
        try dsimp only at hSw
        go_simp
      try simp only [Act.put, List.getElem_toArray, List.getElem_cons_succ, List.getElem_cons_zero, List.setIfInBounds_toArray, List.set_cons_zero, List.set_cons_succ]
      refine wpAnyH_take (i := 3) (oi := _) (v := .pointer (some ⟨w.heap.size, 1, none⟩)) rfl (by kernel_rfl) (by kernel_rfl) (by kernel_rfl) (fun _ _ _ h => h) (Or.inl ⟨by rfl, ?_⟩) hHeld ?_
      · intro wq hSw
        try dsimp only at hSw
        go_simp
      try simp only [Act.put, List.getElem_toArray, List.getElem_cons_succ, List.getElem_cons_zero, List.setIfInBounds_toArray, List.set_cons_zero, List.set_cons_succ]
      refine wpAnyH_take (i := 4) (oi := _) (v := .slice (some ⟨gA, off, none⟩) m c) rfl (by kernel_rfl) (by kernel_rfl) (by kernel_rfl) (fun _ _ _ h => h) (Or.inl ⟨by rfl, ?_⟩) hHeld ?_
      · intro wq hSw
        try dsimp only at hSw
        go_simp
      try simp only [Act.put, List.getElem_toArray, List.getElem_cons_succ, List.getElem_cons_zero, List.setIfInBounds_toArray, List.set_cons_zero, List.set_cons_succ]
      refine wpAnyH_take (i := 5) (oi := _) (v := .int .i64 (j : Int)) rfl (by kernel_rfl) (by kernel_rfl) (by kernel_rfl) (fun _ _ _ h => h) (Or.inl ⟨by rfl, ?_⟩) hHeld ?_
      · intro wq hSw
        try dsimp only at hSw
        go_simp
      try simp only [Act.put, List.getElem_toArray, List.getElem_cons_succ, List.getElem_cons_zero, List.setIfInBounds_toArray, List.set_cons_zero, List.set_cons_succ]
      refine wpAnyH_take (i := 6) (oi := _) (v := .pointer (some ⟨gA, off + j * 6, none⟩)) rfl (by kernel_rfl) (by kernel_rfl) (by kernel_rfl) (fun _ _ _ h => h) (Or.inl ⟨by rfl, ?_⟩) hHeld ?_
      · intro wq hSw
        try dsimp only at hSw
        go_simp
      try simp only [Act.put, List.getElem_toArray, List.getElem_cons_succ, List.getElem_cons_zero, List.setIfInBounds_toArray, List.set_cons_zero, List.set_cons_succ]
      refine wpAnyH_take (i := 7) (oi := _) (v := .pointer (some ⟨gA, off + j * 6, none⟩)) rfl (by kernel_rfl) (by kernel_rfl) (by kernel_rfl) (fun _ _ _ h => h) (Or.inl ⟨by rfl, ?_⟩) hHeld ?_
      · intro wq hSw
        try dsimp only at hSw
        go_simp
      try simp only [Act.put, List.getElem_toArray, List.getElem_cons_succ, List.getElem_cons_zero, List.setIfInBounds_toArray, List.set_cons_zero, List.set_cons_succ]
      refine wpAnyH_take (i := 8) (oi := _) (v := .agg #[.bool s0, .slice b l0 kb, .int .i64 y0]) rfl (by kernel_rfl) (by kernel_rfl) (by kernel_rfl) (fun _ _ _ h => h) (Or.inl ⟨by rfl, ?_⟩) hHeld ?_
      · intro wq hSw
        try dsimp only at hSw
        go_simp
      try simp only [Act.put, List.getElem_toArray, List.getElem_cons_succ, List.getElem_cons_zero, List.setIfInBounds_toArray, List.set_cons_zero, List.set_cons_succ]
      refine wpAnyH_take (i := 10) (oi := _) (v := .pointer (some ⟨w.heap.size, 1, none⟩)) rfl (by kernel_rfl) (by kernel_rfl) (by kernel_rfl) (fun _ _ _ h => h) (Or.inl ⟨by rfl, ?_⟩) hHeld ?_
      · intro wq hSw
        try dsimp only at hSw
        go_simp
      try simp only [Act.put, List.getElem_toArray, List.getElem_cons_succ, List.getElem_cons_zero, List.setIfInBounds_toArray, List.set_cons_zero, List.set_cons_succ]
      refine wpAnyH_take (i := 11) (oi := _) (v := .slice (some ⟨gA, off, none⟩) m c) rfl (by kernel_rfl) (by kernel_rfl) (by kernel_rfl) (fun _ _ _ h => h) (Or.inl ⟨by rfl, ?_⟩) hHeld ?_
      · intro wq hSw
        try dsimp only at hSw
        go_simp
      try simp only [Act.put, List.getElem_toArray, List.getElem_cons_succ, List.getElem_cons_zero, List.setIfInBounds_toArray, List.set_cons_zero, List.set_cons_succ]
      refine wpAnyH_take (i := 12) (oi := _) (v := .int .i64 (j : Int)) rfl (by kernel_rfl) (by kernel_rfl) (by kernel_rfl) (fun _ _ _ h => h) (Or.inl ⟨by rfl, ?_⟩) hHeld ?_
      · intro wq hSw
        try dsimp only at hSw
        go_simp
      try simp only [Act.put, List.getElem_toArray, List.getElem_cons_succ, List.getElem_cons_zero, List.setIfInBounds_toArray, List.set_cons_zero, List.set_cons_succ]
      refine wpAnyH_take (i := 13) (oi := _) (v := .pointer (some ⟨gA, off + j * 6, none⟩)) rfl (by kernel_rfl) (by kernel_rfl) (by kernel_rfl) (fun _ _ _ h => h) (Or.inl ⟨by rfl, ?_⟩) hHeld ?_
      · intro wq hSw
        try dsimp only at hSw
        go_simp
      try simp only [Act.put, List.getElem_toArray, List.getElem_cons_succ, List.getElem_cons_zero, List.setIfInBounds_toArray, List.set_cons_zero, List.set_cons_succ]
      refine wpAnyH_take (i := 14) (oi := _) (v := .pointer (some ⟨gA, off + j * 6 + 3, none⟩)) rfl (by kernel_rfl) (by kernel_rfl) (by kernel_rfl) (fun _ _ _ h => h) (Or.inl ⟨by rfl, ?_⟩) hHeld ?_
      · intro wq hSw
        try dsimp only at hSw
        go_simp
      try simp only [Act.put, List.getElem_toArray, List.getElem_cons_succ, List.getElem_cons_zero, List.setIfInBounds_toArray, List.set_cons_zero, List.set_cons_succ]
      refine wpAnyH_take (i := 15) (oi := _) (v := .agg #[.bool s1, .slice b' l1 kb', .int .i64 y1]) rfl (by kernel_rfl) (by kernel_rfl) (by kernel_rfl) (fun _ _ _ h => h) (Or.inl ⟨by rfl, ?_⟩) hHeld ?_
      · intro wq hSw
        try dsimp only at hSw
        go_simp
      try simp only [Act.put, List.getElem_toArray, List.getElem_cons_succ, List.getElem_cons_zero, List.setIfInBounds_toArray, List.set_cons_zero, List.set_cons_succ]
      refine wpAnyH_ready (rs := [9]) (by kernel_rfl) (by simp) ?_
      refine AllReadyH.cons rfl (fun KK hK => ?_) AllReadyH.nil
      simp only [List.getElem_toArray, List.getElem_cons_succ, List.getElem_cons_zero]
      rw [if_pos (by rfl)]
      refine wps1 88 (.tmp 28) _ rfl in_l7own (.agg #[.bool s0, .slice b l0 kb, .int .i64 y0]) rfl (own7_spec s0 y0 (unhide WN0).1 (unhide WN0).2 _ (unhide T0)) ?_
      rintro e w4 ⟨v4, rfl, rw4, kw4⟩
      refine ⟨_, rfl, ?_⟩
      obtain ⟨a4, c4, hv⟩ := Row.form' rw4
      subst hv
      replace T1 := hide ((unhide T1).kept kw4 (.inr (.inr (Nat.le_refl 0))))
      have U0 := hide rw4
      have K4 := hide kw4
      replace O1 := kw4.cell0 O1
      replace A1 := kw4.cell0 A1
      replace m0 := kw4.cell0 m0
      replace m1 := kw4.cell0 m1
      replace m2 := kw4.cell0 m2
      replace m3 := kw4.cell0 m3
      replace m4 := kw4.cell0 m4
      replace m5 := kw4.cell0 m5
      clear rw4 kw4
      clear hHeld
      refine hK.out _ _ ?_ (fun hHeld => ?_)
      · exact ⟨O1, A1, m0, m1, m2, m3, m4, m5⟩
      clear hK KK
      try simp only [Act.put, List.getElem_toArray, List.getElem_cons_succ, List.getElem_cons_zero, List.setIfInBounds_toArray, List.set_cons_zero, List.set_cons_succ]
      refine wpAnyH_ready (rs := [16]) (by kernel_rfl) (by simp) ?_
      refine AllReadyH.cons rfl (fun KK hK => ?_) AllReadyH.nil
      simp only [List.getElem_toArray, List.getElem_cons_succ, List.getElem_cons_zero]
      rw [if_pos (by rfl)]
      refine wps1 88 (.tmp 35) _ rfl in_l7own (.agg #[.bool s1, .slice b' l1 kb', .int .i64 y1]) rfl (own7_spec s1 y1 (unhide WN1).1 (unhide WN1).2 _ (unhide T1)) ?_
      rintro e w5 ⟨v5, rfl, rw5, kw5⟩
      refine ⟨_, rfl, ?_⟩
      obtain ⟨a5, c5, hv⟩ := Row.form' rw5
      subst hv
      replace U0 := hide ((unhide U0).kept kw5 (.inr (.inr (Nat.le_refl 0))))
      have U1 := hide rw5
      have K5 : Hid (Kept 0 0 wd w5) := (unhide K4).trans kw5
      have Z4 := hide (unhide K4).size
      have Z5 := hide kw5.size
      replace O1 := kw5.cell0 O1
      replace A1 := kw5.cell0 A1
      replace m0 := kw5.cell0 m0
      replace m1 := kw5.cell0 m1
      replace m2 := kw5.cell0 m2
      replace m3 := kw5.cell0 m3
      replace m4 := kw5.cell0 m4
      replace m5 := kw5.cell0 m5
      clear rw5 kw5
      clear hHeld
      refine hK.out _ _ ?_ (fun hHeld => ?_)
      · exact ⟨O1, A1, m0, m1, m2, m3, m4, m5⟩
      clear hK KK
      try simp only [Act.put, List.getElem_toArray, List.getElem_cons_succ, List.getElem_cons_zero, List.setIfInBounds_toArray, List.set_cons_zero, List.set_cons_succ]
      refine wpAnyH_take (i := 17) (oi := _) (v := .agg #[.bool s0, .slice a4 z0.length c4, .int .i64 y0, .bool s1, .slice a5 z1.length c5, .int .i64 y1]) rfl (by kernel_rfl) (by kernel_rfl) (by kernel_rfl) (fun _ _ _ h => h) (Or.inl ⟨by rfl, ?_⟩) hHeld ?_
      · intro wq hSw
        try dsimp only at hSw
        go_simp
      try simp only [Act.put, List.getElem_toArray, List.getElem_cons_succ, List.getElem_cons_zero, List.setIfInBounds_toArray, List.set_cons_zero, List.set_cons_succ]
      refine wpAnyH_take (i := 18) (oi := _) (v := .pointer (some ⟨g, j * 6, none⟩)) rfl (by kernel_rfl) (by kernel_rfl) (by kernel_rfl) (fun _ _ _ h => h) (Or.inl ⟨by rfl, ?_⟩) hHeld ?_
      · intro wq hSw
        try dsimp only at hSw
        go_simp
      try simp only [Act.put, List.getElem_toArray, List.getElem_cons_succ, List.getElem_cons_zero, List.setIfInBounds_toArray, List.set_cons_zero, List.set_cons_succ]
      obtain ⟨x0, hx0⟩ := (unhide HF).cell (j * 6) (by omega)
      replace hx0 := (unhide K5).cell0 hx0
      have fg0 := (unhide K5).loose0 (a := ⟨g, j * 6, none⟩) (unhide HF).lt ((unhide HF).loose (j * 6) (by omega))
      obtain ⟨x1, hx1⟩ := (unhide HF).cell (j * 6 + 1) (by omega)
      replace hx1 := (unhide K5).cell0 hx1
      have fg1 := (unhide K5).loose0 (a := ⟨g, j * 6 + 1, none⟩) (unhide HF).lt ((unhide HF).loose (j * 6 + 1) (by omega))
      obtain ⟨x2, hx2⟩ := (unhide HF).cell (j * 6 + 2) (by omega)
      replace hx2 := (unhide K5).cell0 hx2
      have fg2 := (unhide K5).loose0 (a := ⟨g, j * 6 + 2, none⟩) (unhide HF).lt ((unhide HF).loose (j * 6 + 2) (by omega))
      obtain ⟨x3, hx3⟩ := (unhide HF).cell (j * 6 + 3) (by omega)
      replace hx3 := (unhide K5).cell0 hx3
      have fg3 := (unhide K5).loose0 (a := ⟨g, j * 6 + 3, none⟩) (unhide HF).lt ((unhide HF).loose (j * 6 + 3) (by omega))
      obtain ⟨x4, hx4⟩ := (unhide HF).cell (j * 6 + 4) (by omega)
      replace hx4 := (unhide K5).cell0 hx4
      have fg4 := (unhide K5).loose0 (a := ⟨g, j * 6 + 4, none⟩) (unhide HF).lt ((unhide HF).loose (j * 6 + 4) (by omega))
      obtain ⟨x5, hx5⟩ := (unhide HF).cell (j * 6 + 5) (by omega)
      replace hx5 := (unhide K5).cell0 hx5
      have fg5 := (unhide K5).loose0 (a := ⟨g, j * 6 + 5, none⟩) (unhide HF).lt ((unhide HF).loose (j * 6 + 5) (by omega))
      have F5 := hide ((unhide HF).two hlt (unhide K5) (unhide U0) (unhide U1) (unhide Z4) (unhide Z5) (unhide E0) (unhide E1))
      have KW5 := hide ((unhide KD).trans (unhide K5))
      have KG5 := hide ((unhide KGD).trans (unhide K5).any)
      have hgA2 : w.heap.size ≠ g ∧ O ≠ g ∧ gA ≠ g := ⟨by omega, by omega, by omega⟩
      clear HF U0 U1 Z4 Z5 E0 E1 K4 K5 KD KGD T0 T1 WN0 WN1 KZ
      refine wpAnyH_ready (rs := [19]) (by kernel_rfl) (by simp) ?_
      refine AllReadyH.cons rfl (fun KK hK => ?_) AllReadyH.nil
      simp only [List.getElem_toArray, List.getElem_cons_succ, List.getElem_cons_zero]
      rw [if_pos (by rfl)]
      go_simp
      have ks : Kept g (g + 1) w5 ((((((w5.setCell ⟨g, j * 6, none⟩ (.bool s0)).setCell ⟨g, j * 6 + 1, none⟩ (.slice a4 z0.length c4)).setCell ⟨g, j * 6 + 2, none⟩ (.int .i64 y0)).setCell ⟨g, j * 6 + 3, none⟩ (.bool s1)).setCell ⟨g, j * 6 + 4, none⟩ (.slice a5 z1.length c5)).setCell ⟨g, j * 6 + 5, none⟩ (.int .i64 y1)) := (((((((Kept.refl g (g + 1) w5).setCell (p := ⟨g, j * 6, none⟩) (Nat.le_refl _) (Nat.lt_succ_self _) (.bool s0)).setCell (p := ⟨g, j * 6 + 1, none⟩) (Nat.le_refl _) (Nat.lt_succ_self _) (.slice a4 z0.length c4)).setCell (p := ⟨g, j * 6 + 2, none⟩) (Nat.le_refl _) (Nat.lt_succ_self _) (.int .i64 y0)).setCell (p := ⟨g, j * 6 + 3, none⟩) (Nat.le_refl _) (Nat.lt_succ_self _) (.bool s1)).setCell (p := ⟨g, j * 6 + 4, none⟩) (Nat.le_refl _) (Nat.lt_succ_self _) (.slice a5 z1.length c5)).setCell (p := ⟨g, j * 6 + 5, none⟩) (Nat.le_refl _) (Nat.lt_succ_self _) (.int .i64 y1))
      replace O1 := ks.cellOut (by dsimp only; omega) O1
      replace A1 := ks.cellOut (by dsimp only; omega) A1
      replace m0 := ks.cellOut (by dsimp only; omega) m0
      replace m1 := ks.cellOut (by dsimp only; omega) m1
      replace m2 := ks.cellOut (by dsimp only; omega) m2
      replace m3 := ks.cellOut (by dsimp only; omega) m3
      replace m4 := ks.cellOut (by dsimp only; omega) m4
      replace m5 := ks.cellOut (by dsimp only; omega) m5
      have K6 := hide ((unhide KW5).wide ks (by omega))
      have KG6 := hide ((unhide KG5).trans ks)
      clear ks KW5 KG5
      clear hHeld
      refine hK.out _ _ ?_ (fun hHeld => ?_)
      · exact ⟨O1, A1, m0, m1, m2, m3, m4, m5⟩
      clear hK KK
      try simp only [Act.put, List.getElem_toArray, List.getElem_cons_succ, List.getElem_cons_zero, List.setIfInBounds_toArray, List.set_cons_zero, List.set_cons_succ]
      refine wpAnyH_done (by kernel_rfl) ?_ _
      clear hHeld O1 A1 m0 m1 m2 m3 m4 m5 hx0 hx1 hx2 hx3 hx4 hx5 fg0 fg1 fg2 fg3 fg4 fg5 hgw hgo hgA2
      go_wp2
      go_roundw
      case rel => exact ⟨j + 1, by simp, hlt, F5, K6, KG6⟩
      case measure => simp [intOf]; omega
    · have hjn : j = m := by omega
      subst hjn
      have O0 := (unhide kg).cellOut (a := ⟨O, 0, none⟩) (by dsimp only; omega) o0
      have O1 := (unhide kg).cellOut (a := ⟨O, 1, none⟩) (by dsimp only; omega) o1
      have Q0 := (unhide kg).cellOut (a := ⟨w.heap.size + 1, 0, none⟩) (by dsimp only; omega) q0'
      have Q1 := (unhide kg).cellOut (a := ⟨w.heap.size + 1, 1, none⟩) (by dsimp only; omega) q1'
      have Qf0 := (unhide kg).looseOut (a := ⟨w.heap.size + 1, 0, none⟩) (by dsimp only; omega) (World.block_lt_of_cell? _ _ q0') f0'
      have Qf1 := (unhide kg).looseOut (a := ⟨w.heap.size + 1, 1, none⟩) (by dsimp only; omega) (World.block_lt_of_cell? _ _ q1') f1'
      have DD := ivsO_done (unhide hF) (unhide HLEN) (by unfold maxLen; omega)
      have ks : Kept (w.heap.size + 1) (w.heap.size + 2) wr ((wr.setCell ⟨w.heap.size + 1, 0, none⟩ (.int .i64 (k : Int))).setCell ⟨w.heap.size + 1, 1, none⟩ (.slice (some ⟨g, 0, none⟩) j j)) := ((Kept.refl _ _ _).setCell (p := ⟨w.heap.size + 1, 0, none⟩) (Nat.le_refl _) (Nat.lt_succ_self _) _).setCell (p := ⟨w.heap.size + 1, 1, none⟩) (Nat.le_refl _) (Nat.lt_succ_self _) _
      have hsz : ((wr.setCell ⟨w.heap.size + 1, 0, none⟩ (.int .i64 (k : Int))).setCell ⟨w.heap.size + 1, 1, none⟩ (.slice (some ⟨g, 0, none⟩) j j)).heap.size = wr.heap.size := by rw [size_set, size_set]
      have R7 := hide ((DD.kept ks (by omega)).wider (lo' := w.heap.size) (hi' := ((wr.setCell ⟨w.heap.size + 1, 0, none⟩ (.int .i64 (k : Int))).setCell ⟨w.heap.size + 1, 1, none⟩ (.slice (some ⟨g, 0, none⟩) j j)).heap.size) (by omega) (by omega))
      have K7 := hide ((unhide kw).wide ks (by omega))
      clear hF kg kw DD ks hsz hgo hgw
      go_wp2
      exact bodyPost_ret (v := .tuple #[.agg #[.int .i64 (k : Int), .slice (some ⟨g, 0, none⟩) j j], .bool true]) (by simp [results, Tryz.results39, go_sem, Q0, Q1]) rfl ⟨.slice (some ⟨g, 0, none⟩) j j, by rw [(unhide HY).1], by rw [(unhide HY).2.1, (unhide HY).2.2]; exact unhide R7, unhide K7⟩

end Go.Proofs.YthahoabkehcgbaaGreatDoor


namespace Go.Proofs.YthahoabkehcgbaaGreatDoor
open Go.RowKit
set_option linter.unusedVariables false
set_option maxRecDepth 8000
set_option linter.unusedSimpArgs false

theorem tdB_nEH {L V : Int} {d : DE} (h : IsV L V d) : tdB d = dOkE (nE V L) := by
  rw [← h.form]
  unfold tdB ansDB dOkE nE
  rw [Bool.true_and]
theorem tdE_nEH {L V : Int} {d : DE} (h : IsV L V d) (hb : tdB d = true) : tdE d = nE V L := by
  rw [← h.form]
  obtain ⟨y1, y2, y3⟩ := ansD_yes hb
  unfold tdE nE
  rw [y1, y2, y3]
/-- Whether all ends can be told; what is told. -/
def hwB (c : Bool) (V : Nat → Int) (L n : Int) : Bool := c && allB (fun p => dOkE (nE (V (2 * p)) L) && dOkE (nE (V (2 * p + 1)) L)) (n.toNat * n.toNat)
def hwL (c : Bool) (V : Nat → Int) (L n : Int) : List DE := if hwB c V L n = true then (List.range (2 * (n.toNat * n.toNat))).map (fun q => nE (V q) L) else []
def hwN (c : Bool) (V : Nat → Int) (L n : Int) : Int := if hwB c V L n = true then n else 0
def hwC (c : Bool) (V : Nat → Int) (L n : Int) : Nat := if hwB c V L n = true then n.toNat * n.toNat else 0
theorem allB_congrH {B B' : Nat → Bool} {n : Nat} (h : ∀ p, p < n → B p = B' p) : allB B n = allB B' n := by
  unfold allB
  apply Bool.eq_iff_iff.2
  rw [List.all_eq_true, List.all_eq_true]
  exact ⟨fun g p hp => by rw [← h p (List.mem_range.1 hp)]; exact g p hp, fun g p hp => by rw [h p (List.mem_range.1 hp)]; exact g p hp⟩
/-- What the program tells. -/
theorem hw_tel {k : Nat} {V : Nat → Int} {L : Int} {F : Nat → DE} (h : ∀ q, q < 2 * (k * k) → IsV L (V q) (F q)) :
    allB (hBp F) (k * k) = hwB true V L (k : Int) ∧ telN (hBp F) (k * k) (k : Int) = hwN true V L (k : Int) ∧ hL F (k * k) = hwL true V L (k : Int) ∧ hC F (k * k) = hwC true V L (k : Int) := by
  have e : allB (hBp F) (k * k) = hwB true V L (k : Int) := by
    unfold hwB
    rw [Bool.true_and, Int.toNat_natCast]
    exact allB_congrH (fun p hp => by unfold hBp hB; rw [tdB_nEH (h (2 * p) (by omega)), tdB_nEH (h (2 * p + 1) (by omega))])
  refine ⟨e, by unfold telN hwN; rw [e], ?_, by unfold hC hwC; rw [e, Int.toNat_natCast]⟩
  unfold hL hwL
  rw [e, Int.toNat_natCast]
  by_cases hb : hwB true V L (k : Int) = true
  · rw [if_pos hb, if_pos hb]
    rw [← e] at hb
    unfold allB at hb
    rw [List.all_eq_true] at hb
    exact List.map_congr_left (fun q hq => by
      have hq2 := List.mem_range.1 hq
      have hb2 := hb (q / 2) (List.mem_range.2 (by omega))
      unfold hBp hB at hb2
      rw [Bool.and_eq_true] at hb2
      unfold hEs
      refine tdE_nEH (h q hq2) ?_
      by_cases ev : q % 2 = 0
      · have := hb2.1; rwa [show 2 * (q / 2) = q by omega] at this
      · have := hb2.2; rwa [show 2 * (q / 2) + 1 = q by omega] at this)
  · rw [if_neg hb, if_neg hb]
/-- What the model tells of a list. -/
theorem hw_ok {k : Nat} {V : Nat → Int} {L : Int} (h1 : 0 < k) (h4 : k ≤ 4) (hL : L ≤ 0) (hm : ∀ p, p < k * k → V (2 * p) ≤ V (2 * p + 1)) :
    imokB (k : Int) ((List.range (2 * (k * k))).map (fun q => nE (V q) L)) (k * k) = hwB true V L (k : Int) := by
  unfold imokB hwB
  rw [decide_eq_true (show (1 : Int) ≤ k by omega), decide_eq_true (show (k : Int) ≤ 4 by omega), decide_eq_true (show ((k * k : Nat) : Int) = (k : Int) * k by rw [← Int.natCast_mul]), Bool.true_and, Bool.true_and, Int.toNat_natCast]
  unfold ivAll
  show allB _ _ = _
  refine allB_congrH (fun p hp => ?_)
  unfold ivE
  rw [map_at _ _ _ (show 2 * p < 2 * (k * k) by omega), map_at _ _ _ (show 2 * p + 1 < 2 * (k * k) by omega)]
  unfold iokB
  obtain ⟨d, hd⟩ : ∃ d, d = nE (V (2 * p)) L := ⟨_, rfl⟩
  obtain ⟨d', hd'⟩ : ∃ d, d = nE (V (2 * p + 1)) L := ⟨_, rfl⟩
  rw [← hd, ← hd']
  show (dOkE d && dOkE d' && _) = (dOkE d && dOkE d')
  cases h5 : dOkE d
  · rfl
  cases h6 : dOkE d'
  · rfl
  have hc : cmpD d.1 d.2.1 d.2.2 d'.1 d'.2.1 d'.2.2 ≤ 0 := by
    rw [cmpD_ok h5 h6, cmpD_pos (L := L) (V := V (2 * p)) (U := V (2 * p + 1)) (by rw [hd]; exact nE_isV hL) (by rw [hd']; exact nE_isV hL)]
    have := hm p hp
    unfold cmpI
    by_cases h : V (2 * p) < V (2 * p + 1)
    · rw [if_pos h]; decide
    · rw [if_neg h, if_neg (by omega)]; decide
  rw [decide_eq_true hc]
  rfl
theorem hw_fit {k : Nat} {V : Nat → Int} {L : Int} (h1 : 0 < k) (h4 : k ≤ 4) (hL : L ≤ 0) (hm : ∀ p, p < k * k → V (2 * p) ≤ V (2 * p + 1)) :
    imokB (k : Int) ((List.range (2 * (k * k))).map (fun q => nE (V q) L)) (k * k) = hwB true V L (k : Int) ∧ f10N (k : Int) ((List.range (2 * (k * k))).map (fun q => nE (V q) L)) (k * k) = hwN true V L (k : Int) ∧ f10L (k : Int) ((List.range (2 * (k * k))).map (fun q => nE (V q) L)) (k * k) = hwL true V L (k : Int) ∧ f10C (k : Int) ((List.range (2 * (k * k))).map (fun q => nE (V q) L)) (k * k) = hwC true V L (k : Int) := by
  have e := hw_ok h1 h4 hL hm
  refine ⟨e, by unfold f10N hwN; rw [e], ?_, by unfold f10C hwC; rw [e, Int.toNat_natCast]⟩
  unfold f10L hwL
  rw [e, Int.toNat_natCast]
theorem hw_wf {n : Nat} {V : Nat → Int} {L : Int} (hL : L ≤ 0) (hL0 : -40000 ≤ L) (hV : ∀ q, q < n → (V q).natAbs < 2 ^ AA) : WfD ((List.range n).map (fun q => nE (V q) L)) ∧ AllWN ((List.range n).map (fun q => nE (V q) L)) := by
  constructor
  · intro i hi
    have hi2 : i < n := by simpa using hi
    rw [map_at _ _ _ hi2]
    have := dex_range (V i) L (by omega) (by omega) (hV i hi2) (by unfold AA; decide)
    exact this
  · intro i hi
    have hi2 : i < n := by simpa using hi
    rw [map_at _ _ _ hi2]
    exact ⟨nE_wn _, Nat.le_trans (dlm_lenV (hV i hi2) (show AA ≤ 16 * 2500 by decide)) (by decide)⟩

end Go.Proofs.YthahoabkehcgbaaGreatDoor


namespace Go.Proofs.YthahoabkehcgbaaGreatDoor
open Go.RowKit
set_option linter.unusedVariables false
set_option maxRecDepth 8000
set_option linter.unusedSimpArgs false

/-- The box X holds V in its one form. -/
def BoxT (lo : Nat) (w : World) (X : Nat) (V : Int) : Prop :=
  ∃ a c, w.cell? ⟨X, 0, none⟩ = some (.bool (nE V (-3000)).1) ∧ w.cell? ⟨X, 1, none⟩ = some (.slice a (nE V (-3000)).2.1.length c) ∧ w.cell? ⟨X, 2, none⟩ = some (.int .i64 (nE V (-3000)).2.2) ∧ Row .i64 true lo w.heap.size w (.slice a (nE V (-3000)).2.1.length c) (nE V (-3000)).2.1

end Go.Proofs.YthahoabkehcgbaaGreatDoor


namespace Go.Proofs.YthahoabkehcgbaaGreatDoor
open Go.RowKit
set_option linter.unusedVariables false
set_option maxRecDepth 8000
set_option linter.unusedSimpArgs false

theorem BoxT.keptW {lo X l h : Nat} {w w' : World} {V : Int} (b : BoxT lo w X V) (k : Kept l h w w') (hX : X < l ∨ h ≤ X) (hl : w.heap.size ≤ l ∨ h ≤ lo ∨ h ≤ l) : BoxT lo w' X V := by
  obtain ⟨a, c, x0, x1, x2, r⟩ := b
  exact ⟨a, c, k.cellOut (a := ⟨X, 0, none⟩) hX x0, k.cellOut (a := ⟨X, 1, none⟩) hX x1, k.cellOut (a := ⟨X, 2, none⟩) hX x2, (r.kept k hl).wider (Nat.le_refl _) k.size⟩
end Go.Proofs.YthahoabkehcgbaaGreatDoor


namespace Go.Proofs.YthahoabkehcgbaaGreatDoor
open Go.RowKit
set_option linter.unusedVariables false
set_option maxRecDepth 8000
set_option linter.unusedSimpArgs false

end Go.Proofs.YthahoabkehcgbaaGreatDoor


namespace Go.Proofs.YthahoabkehcgbaaGreatDoor
open Go.RowKit
set_option linter.unusedVariables false
set_option maxRecDepth 8000
set_option linter.unusedSimpArgs false

end Go.Proofs.YthahoabkehcgbaaGreatDoor


namespace Go.Proofs.YthahoabkehcgbaaGreatDoor
open Go.RowKit
set_option linter.unusedVariables false
set_option maxRecDepth 8000
set_option linter.unusedSimpArgs false

/-- A number in the block g. -/
def Pt (w : World) (g : Nat) (d : DE) : Prop := ∃ u, Num 0 w g u d.2.1 ∧ Sd w g d.1 ∧ Ex w g d.2.2
theorem Pt.kept {w w' : World} {g : Nat} {d : DE} (h : Pt w g d) (k : Kept 0 0 w w') : Pt w' g d := by
  obtain ⟨u, n, s, e⟩ := h
  exact ⟨u, n.kept k, s.kept k, e.kept k⟩

end Go.Proofs.YthahoabkehcgbaaGreatDoor


namespace Go.Proofs.YthahoabkehcgbaaGreatDoor
open Go.RowKit
set_option linter.unusedVariables false
set_option maxRecDepth 8000
set_option linter.unusedSimpArgs false

theorem iok_le {d d' : DE} (h : iokB d.1 d.2.1 d.2.2 d'.1 d'.2.1 d'.2.2 = true) : dv (-3000) d ≤ dv (-3000) d' := by
  obtain ⟨h1, h2, h3⟩ := iok_parts h
  rw [cmpD_ok h1 h2, cmpD_pos (dok_nv h1 (Int.le_refl (-3000))).1 (dok_nv h2 (Int.le_refl (-3000))).1] at h3
  unfold cmpI at h3
  by_cases g : dv (-3000) d < dv (-3000) d'
  · omega
  · rw [if_neg g] at h3
    by_cases g2 : dv (-3000) d' < dv (-3000) d
    · first | (rw [if_pos g2] at h3; omega) | (split at h3 <;> omega)
    · omega
theorem imok_le {n : Int} {ds : List DE} {m p : Nat} (h : imokB n ds m = true) (hp : p < m) : dv (-3000) (ds.getD (2 * p) de0) ≤ dv (-3000) (ds.getD (2 * p + 1) de0) := by
  unfold imokB at h
  simp only [Bool.and_eq_true, decide_eq_true_eq] at h
  have h2 := h.2.2
  unfold ivAll at h2
  rw [List.all_eq_true] at h2
  exact iok_le (h2 p (List.mem_range.2 hp))
end Go.Proofs.YthahoabkehcgbaaGreatDoor

