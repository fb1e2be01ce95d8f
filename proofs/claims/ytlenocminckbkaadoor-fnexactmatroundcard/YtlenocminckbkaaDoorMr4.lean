/-
  MatRound of the model: what l8round makes, told where every number may be.
-/
import Derived.Test.YtlenocminckbkaaDoorMr3
namespace Go.Proofs.YtlenocminckbkaaDoor
open Go.RowKit
set_option linter.unusedVariables false
set_option maxRecDepth 8000
set_option linter.unusedSimpArgs false

theorem limT_le (ds : List DE) (h : ∀ i, i < ds.length → (ds.getD i de0).2.1.length ≤ 100) : ∀ j, j ≤ ds.length → limT ds j ≤ 100 * j
  | 0, _ => Nat.le_refl _
  | j + 1, hj => by
    have h1 := limT_le ds h j (by omega)
    have h2 := h j (by omega)
    show limT ds j + _ ≤ _
    omega
theorem mok_sz {n : Int} {ds : List DE} (h : mokB n ds = true) : szT ds ≤ 2000 := by
  obtain ⟨u1, u2, u3, U⟩ := mok_partsA h
  obtain ⟨k, rfl⟩ := Int.eq_ofNat_of_zero_le (show 0 ≤ n by omega)
  have hlen : ds.length = k * k := by rw [← Int.natCast_mul] at u3; omega
  have h16 : k * k ≤ 4 * 4 := Nat.mul_le_mul (by omega) (by omega)
  have h1 := limT_le ds (fun i hi => by
    obtain ⟨w1', -, -, -, -⟩ := dok_parts (U i hi)
    obtain ⟨-, -, lx, hx⟩ := wok_int w1'
    omega) ds.length (Nat.le_refl _)
  unfold szT
  omega
theorem rou_sz (n : Int) (ds : List DE) (low mode : Int) : szT (rouL n ds low mode) ≤ 2000 := by
  cases hb : rouB n ds low mode
  · rw [(rou_no hb).1]; decide
  cases hm : mayR low mode
  · rw [rou_low hm] at hb; cases hb
  have hb' := hb
  unfold rouB at hb'
  simp only [Bool.and_eq_true] at hb'
  obtain ⟨t1, t2⟩ := rou_fit hb'.1 hm
  rw [t2 hb]
  exact mok_sz (t1.symm.trans hb)

set_option maxHeartbeats 8000000 in
theorem matRound_spec {lo hi : Nat} {v : Value} {ds : List DE} (n : Int) (low mode : Int) (w : World) (hw : WfD ds) (r : Dys lo hi w v ds) :
    Calls Tryd.prog 5 #[.agg #[.int .i64 n, v], .int .i64 low, .int .i64 mode] w fun e w' => ∃ v', e = .returned (.tuple #[.agg #[.int .i64 (rouN n ds low mode), v'], .bool (rouB n ds low mode)]) ∧ DysO w.heap.size w'.heap.size w' v' (rouL n ds low mode) ∧ Kept 0 0 w w' := by
  obtain ⟨W, hW⟩ : ∃ W, W = (w.alloc (.cells #[.int .i64 n, v] 28)).alloc (.cells #[.int .i64 0, .slice none 0 0] 28) := ⟨_, rfl⟩
  have k0 : Kept 0 0 w W := by rw [hW]; exact ((Kept.refl 0 0 w).alloc _).alloc _
  have c0 : W.cell? ⟨w.heap.size, 0, none⟩ = some (.int .i64 n) := by rw [hW]; exact old_cell _ (new_cell2 _ _ _ _ _ _ (by simp) rfl)
  have c1 : W.cell? ⟨w.heap.size, 1, none⟩ = some v := by rw [hW]; exact old_cell _ (new_cell2 _ _ _ _ _ _ (by simp) rfl)
  have q0 : W.cell? ⟨w.heap.size + 1, 0, none⟩ = some (.int .i64 0) := by rw [hW]; exact new_cell2 _ _ _ _ _ _ (by simp) rfl
  have q1 : W.cell? ⟨w.heap.size + 1, 1, none⟩ = some (.slice none 0 0) := by rw [hW]; exact new_cell2 _ _ _ _ _ _ (by simp) rfl
  have f0 : W.frozen? ⟨w.heap.size + 1, 0, none⟩ = false := by rw [hW]; exact new_loose2 _ _ _ _ _ (by simp)
  have f1 : W.frozen? ⟨w.heap.size + 1, 1, none⟩ = false := by rw [hW]; exact new_loose2 _ _ _ _ _ (by simp)
  have sW : W.heap.size = w.heap.size + 2 := by rw [hW]; simp
  have r0 := r.kept k0 (by omega)
  have ho := matOk_spec n W hw r0
  obtain ⟨a, c, rfl, -, -⟩ := r.form
  rw [hW] at ho
  clear r
  go_enter Tryd.func5, Tryd.ntmps5
  go_wp2_with fail
  rw [← hW] at ho ⊢
  clear hW
  refine ho.mono ?_
  rintro e w1 ⟨rfl, k1⟩
  replace f0 := k1.loose0 (World.block_lt_of_cell? _ _ q0) f0
  replace f1 := k1.loose0 (World.block_lt_of_cell? _ _ q1) f1
  replace c0 := k1.cell0 c0
  replace c1 := k1.cell0 c1
  replace q0 := k1.cell0 q0
  replace q1 := k1.cell0 q1
  replace r0 := r0.kept k1 (by omega)
  have K1 := hide (k0.trans k1)
  have z1 := k1.size
  clear ho k0 k1
  cases hk : mokB n ds
  · have HB : Hid (rouB n ds low mode = false) := by show _ = _; unfold rouB; rw [hk]; rfl
    have K7 := hide (((unhide K1).setNew (p := ⟨w.heap.size + 1, 0, none⟩) (by simp) (.int .i64 0)).setNew (p := ⟨w.heap.size + 1, 1, none⟩) (by simp) (.slice none 0 0))
    clear r0 K1 hk
    go_wp2
    exact bodyPost_ret (v := .tuple #[.agg #[.int .i64 0, .slice none 0 0], .bool false]) (by simp [results, Tryd.results5, go_sem, q0, q1]) rfl ⟨.slice none 0 0, by rw [(rou_no (unhide HB)).2, unhide HB], by rw [(rou_no (unhide HB)).1]; exact DysO.void _ _ _, unhide K7⟩
  have HK := hide hk
  clear hk
  by_cases hl1 : low < -3000
  · have HB : Hid (rouB n ds low mode = false) := by show _ = _; exact rou_low (by unfold mayR; rw [decide_eq_false (show ¬ -3000 ≤ low by omega)]; simp)
    have K7 := hide (((unhide K1).setNew (p := ⟨w.heap.size + 1, 0, none⟩) (by simp) (.int .i64 0)).setNew (p := ⟨w.heap.size + 1, 1, none⟩) (by simp) (.slice none 0 0))
    clear r0 K1
    go_wp2
    exact bodyPost_ret (v := .tuple #[.agg #[.int .i64 0, .slice none 0 0], .bool false]) (by simp [results, Tryd.results5, go_sem, q0, q1]) rfl ⟨.slice none 0 0, by rw [(rou_no (unhide HB)).2, unhide HB], by rw [(rou_no (unhide HB)).1]; exact DysO.void _ _ _, unhide K7⟩
  by_cases hl2 : 3000 < low
  · have HB : Hid (rouB n ds low mode = false) := by show _ = _; exact rou_low (by unfold mayR; rw [decide_eq_false (show ¬ low ≤ 3000 by omega)]; simp)
    have K7 := hide (((unhide K1).setNew (p := ⟨w.heap.size + 1, 0, none⟩) (by simp) (.int .i64 0)).setNew (p := ⟨w.heap.size + 1, 1, none⟩) (by simp) (.slice none 0 0))
    clear r0 K1
    go_wp2
    exact bodyPost_ret (v := .tuple #[.agg #[.int .i64 0, .slice none 0 0], .bool false]) (by simp [results, Tryd.results5, go_sem, q0, q1]) rfl ⟨.slice none 0 0, by rw [(rou_no (unhide HB)).2, unhide HB], by rw [(rou_no (unhide HB)).1]; exact DysO.void _ _ _, unhide K7⟩
  go_wp2_with fail
  refine (mode_spec mode _).mono ?_
  rintro e w5 ⟨rfl, rfl⟩
  cases hm : modeB mode
  · have HB : Hid (rouB n ds low mode = false) := by show _ = _; exact rou_low (by unfold mayR; rw [hm]; simp)
    have K7 := hide (((unhide K1).setNew (p := ⟨w.heap.size + 1, 0, none⟩) (by simp) (.int .i64 0)).setNew (p := ⟨w.heap.size + 1, 1, none⟩) (by simp) (.slice none 0 0))
    clear r0 K1 hm
    go_wp2
    exact bodyPost_ret (v := .tuple #[.agg #[.int .i64 0, .slice none 0 0], .bool false]) (by simp [results, Tryd.results5, go_sem, q0, q1]) rfl ⟨.slice none 0 0, by rw [(rou_no (unhide HB)).2, unhide HB], by rw [(rou_no (unhide HB)).1]; exact DysO.void _ _ _, unhide K7⟩
  have hmr : mayR low mode = true := by unfold mayR; rw [hm, decide_eq_true (show -3000 ≤ low by omega), decide_eq_true (show low ≤ 3000 by omega)]; rfl
  obtain ⟨t1, t2⟩ := rou_fit (unhide HK) hmr
  obtain ⟨u1, u2, u3, U⟩ := mok_partsA (unhide HK)
  obtain ⟨k, rfl⟩ := Int.eq_ofNat_of_zero_le (show 0 ≤ n by omega)
  have hlen : ds.length = k * k := by rw [← Int.natCast_mul] at u3; omega
  have h16 : k * k ≤ 4 * 4 := Nat.mul_le_mul (by omega) (by omega)
  have hsc := round8_spec low mode w5 (by omega) hlen U hmr r0
  obtain ⟨PL, hPL⟩ : ∃ PL, PL = (List.range ds.length).map fun i => rE low mode (ds.getD i de0) := ⟨_, rfl⟩
  have hpl : PL.length = ds.length := by rw [hPL]; simp
  have hpw : WfD PL := fun i hi => by rw [hPL, map_at _ _ _ (by omega)]; exact (rE_facts (U i (by omega)) hmr).1
  have hpn : AllWN PL := fun i hi => by rw [hPL, map_at _ _ _ (by omega)]; exact ⟨(rE_facts (U i (by omega)) hmr).2.1, (rE_facts (U i (by omega)) hmr).2.2.1⟩
  rw [← hPL] at hsc t1 t2
  have hfin : fitN (k : Int) PL = rouN k ds low mode ∧ fitB (k : Int) PL = rouB k ds low mode ∧ fitL (k : Int) PL = rouL k ds low mode := by
    unfold fitN fitB fitL
    rw [← t1]
    refine ⟨rfl, rfl, ?_⟩
    by_cases hb : rouB k ds low mode = true
    · rw [if_pos hb, t2 hb]
    · rw [if_neg hb]; unfold rouL; rw [if_neg hb]
  obtain ⟨h1, h2', h3⟩ := hfin
  have hpl100 : PL.length ≤ 100 := by omega
  have HPW := hide hpw
  have HPN := hide hpn
  have H1 := hide h1
  have H2 := hide h2'
  have H3 := hide h3
  have HP100 := hide hpl100
  clear t1 t2 u1 u2 u3 U hlen h16 hm hmr hpw hpn hPL hpl h1 h2' h3 hpl100 r0 hw
  go_wp2_with fail
  refine hsc.mono ?_
  rintro e w3 ⟨v3, rfl, r3, k3⟩
  obtain ⟨a3, d3, hv3⟩ := r3.form'
  subst hv3
  replace f0 := k3.loose0 (World.block_lt_of_cell? _ _ q0) f0
  replace f1 := k3.loose0 (World.block_lt_of_cell? _ _ q1) f1
  replace q0 := k3.cell0 q0
  replace q1 := k3.cell0 q1
  have K3 := hide ((unhide K1).trans k3)
  have z3 := k3.size
  have hft := fits8_spec (k : Int) w3 (unhide HP100) (unhide HPW) (unhide HPN) r3
  rw [unhide H1, unhide H2, unhide H3] at hft
  obtain ⟨BB, hBB⟩ : ∃ q, q = rouB k ds low mode := ⟨_, rfl⟩
  obtain ⟨LL, hLL⟩ : ∃ q, q = rouL k ds low mode := ⟨_, rfl⟩
  obtain ⟨NN, hNN⟩ : ∃ q, q = rouN k ds low mode := ⟨_, rfl⟩
  rw [← hBB, ← hLL, ← hNN] at hft
  have HBB := hide hBB
  have HLL := hide hLL
  have HNN := hide hNN
  clear hBB hLL hNN hsc r3 k3 K1 H1 H2 H3 c0 c1
  go_wp2_with fail
  refine hft.mono ?_
  rintro e w4 ⟨v4, rfl, r4, k4⟩
  obtain ⟨a4, d4, hv4⟩ := r4.form'
  subst hv4
  replace f0 := k4.loose0 (World.block_lt_of_cell? _ _ q0) f0
  replace f1 := k4.loose0 (World.block_lt_of_cell? _ _ q1) f1
  replace q0 := k4.cell0 q0
  replace q1 := k4.cell0 q1
  have K7 := hide ((((unhide K3).trans k4).setNew (p := ⟨w.heap.size + 1, 0, none⟩) (by simp) (.int .i64 NN)).setNew (p := ⟨w.heap.size + 1, 1, none⟩) (by simp) (.slice a4 LL.length d4))
  have ks : Kept (w.heap.size + 1) (w.heap.size + 2) w4 ((w4.setCell ⟨w.heap.size + 1, 0, none⟩ (.int .i64 NN)).setCell ⟨w.heap.size + 1, 1, none⟩ (.slice a4 LL.length d4)) :=
    ((Kept.refl _ _ _).setCell (p := ⟨w.heap.size + 1, 0, none⟩) (Nat.le_refl _) (Nat.lt_succ_self _) _).setCell (p := ⟨w.heap.size + 1, 1, none⟩) (Nat.le_refl _) (Nat.lt_succ_self _) _
  have hsz : ((w4.setCell ⟨w.heap.size + 1, 0, none⟩ (.int .i64 NN)).setCell ⟨w.heap.size + 1, 1, none⟩ (.slice a4 LL.length d4)).heap.size = w4.heap.size := by rw [size_set, size_set]
  have R7 := hide ((r4.kept ks (by omega)).wider (lo' := w.heap.size) (hi' := ((w4.setCell ⟨w.heap.size + 1, 0, none⟩ (.int .i64 NN)).setCell ⟨w.heap.size + 1, 1, none⟩ (.slice a4 LL.length d4)).heap.size) (by omega) (by omega))
  clear hft r4 k4 ks hsz K3
  go_wp2
  exact bodyPost_ret (v := .tuple #[.agg #[.int .i64 NN, .slice a4 LL.length d4], .bool BB]) (by simp [results, Tryd.results5, go_sem, q0, q1]) rfl ⟨.slice a4 LL.length d4, by rw [← unhide HNN, ← unhide HBB], by rw [← unhide HLL]; exact unhide R7, unhide K7⟩

end Go.Proofs.YtlenocminckbkaaDoor
