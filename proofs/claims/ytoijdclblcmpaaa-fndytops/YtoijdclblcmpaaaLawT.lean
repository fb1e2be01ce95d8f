/-
  The laws' helpers on dyadic numbers; the walk of the law FnDyTops: it returns true at every code.
-/
import Derived.Test.YtoijdclblcmpaaaDrawD2
import Derived.Test.YtoijdclblcmpaaaDy4
import Derived.Test.YtoijdclblcmpaaaLawN
namespace Go.Proofs.Ytoijdclblcmpaaa
open Go.RowKit
set_option linter.unusedVariables false
set_option maxRecDepth 8000
set_option linter.unusedSimpArgs false

def dyC (n e : Int) : Bool := wokB (wsg n) (wlm n) && l4eB e
theorem dy_form {n e : Int} (h : dokB (wsg n) (wlm n) e = true) : ansDS (dyC n e) n e = wsg n ∧ ansDL (dyC n e) n e = wlm n ∧ ansDE (dyC n e) n e = e := by
  obtain ⟨h1, h2, h3, -, -⟩ := dok_parts h
  have hc : dyC n e = true := by
    unfold dyC l4eB
    rw [h1, decide_eq_true (show -12000 ≤ e by omega), decide_eq_true (show e ≤ 12000 by omega)]
    rfl
  rw [hc]
  obtain ⟨-, b1, b2, b3⟩ := d_ok h n (by unfold wlm; rw [limbs_val]; simp)
  exact ⟨b1, b2, b3⟩
theorem one_lim : wlm 1 = [1] := by decide
theorem five_lim : wlm 5 = [5] := by decide
theorem dok_small (z e : Int) (hz : z = 1 ∨ z = 5) (h1 : -3000 ≤ e) (h2 : e ≤ 3000) : dokB false [z] e = true := by
  have hw : wokB false [z] = true := by rcases hz with rfl | rfl <;> decide
  rw [dokB_odd hw h1 h2 (by simp)]
  rcases hz with rfl | rfl <;> rfl
theorem top_five : topD false [5] 1 = 4 := by
  unfold topD
  rw [dok_small 5 1 (.inr rfl) (by decide) (by decide), if_pos rfl]
  decide
/-- The size is below the power of two that is told, and not below its half. -/
theorem tops_ok {s : Bool} {zs : List Int} {x : Int} (h : dokB s zs x = true) (h0 : 0 < zs.length) (h1 : topD s zs x ≤ 3000) (h2 : -3000 < topD s zs x) :
    dokB false zs x = true ∧ cmpD false zs x false [1] (topD s zs x) = -1 ∧ 0 ≤ cmpD false zs x false [1] (topD s zs x - 1) := by
  obtain ⟨w1, f1, f2, -, f4⟩ := dok_parts h
  obtain ⟨-, -, hl, hn⟩ := wok_int w1
  have hw : wokB false zs = true := by
    unfold wokB at w1 ⊢
    simp only [Bool.and_eq_true] at w1
    rw [w1.1]; rfl
  have hd : dokB false zs x = true := by rw [dokB_odd hw f1 f2 h0]; exact decide_eq_true (f4 (List.length_pos_iff.1 h0))
  have ht : topD s zs x = x + (bitsN (val zs).toNat : Int) := by
    unfold topD topI
    rw [h, if_pos rfl, if_neg (by omega)]
  have hv0 := val_nonneg hn.1
  have hp := nrm_pow hn (List.length_pos_iff.1 h0)
  have hp0 : (0 : Int) < 65536 ^ (zs.length - 1) := Int.pow_pos (by decide)
  have hb1 := (bitsN_le (val zs).toNat (bitsN (val zs).toNat)).1 (Nat.le_refl _)
  have hb2 : ¬ (val zs).toNat < 2 ^ (bitsN (val zs).toNat - 1) := by
    rw [← bitsN_le]
    have := bitsN_half (val zs).toNat (by omega)
    omega
  have hb0 := bitsN_half (val zs).toNat (by omega)
  rw [ht] at h1 h2 ⊢
  generalize hB : bitsN (val zs).toNat = B at *
  refine ⟨hd, ?_, ?_⟩
  · rw [cmpD_ok hd (dok_small 1 _ (.inl rfl) (by omega) (by omega))]
    unfold cmpDI cmpI
    rw [show min x (x + (B : Int)) = x by omega, show (x - x).toNat = 0 by omega, show (x + (B : Int) - x).toNat = B by omega]
    have e1 : wval false zs = val zs := rfl
    have e2 : wval false [1] = 1 := rfl
    rw [e1, e2, if_pos]
    have : (((val zs).toNat : Nat) : Int) < ((2 ^ B : Nat) : Int) := Int.ofNat_lt.2 hb1
    rw [Int.toNat_of_nonneg hv0] at this
    simpa using this
  · rw [cmpD_ok hd (dok_small 1 _ (.inl rfl) (by omega) (by omega))]
    unfold cmpDI cmpI
    rw [show min x (x + (B : Int) - 1) = x by omega, show (x - x).toNat = 0 by omega, show (x + (B : Int) - 1 - x).toNat = B - 1 by omega]
    have e1 : wval false zs = val zs := rfl
    have e2 : wval false [1] = 1 := rfl
    rw [e1, e2, if_neg]
    · split <;> decide
    · have : ¬ (((val zs).toNat : Nat) : Int) < ((2 ^ (B - 1) : Nat) : Int) := fun hh => hb2 (Int.ofNat_lt.1 hh)
      rw [Int.toNat_of_nonneg hv0] at this
      simpa using this

set_option maxHeartbeats 4000000 in
theorem dy_any (n e : Int) (hn1 : n ≤ 9223372036854775807) (hn0 : -9223372036854775808 ≤ n) (w : World) :
    Calls Try.prog 46 #[.int .i64 n, .int .i64 e] w fun r w' => ∃ v', r = .returned (.agg #[.bool (ansDS (dyC n e) n e), v', .int .i64 (ansDE (dyC n e) n e)]) ∧ Row .i64 true w.heap.size w'.heap.size w' v' (ansDL (dyC n e) n e) ∧ Kept 0 0 w w' := by
  obtain ⟨GS, hGS⟩ : ∃ y, ansDS (dyC n e) n e = y := ⟨_, rfl⟩
  obtain ⟨GL, hGL⟩ : ∃ y, ansDL (dyC n e) n e = y := ⟨_, rfl⟩
  obtain ⟨GE, hGE⟩ : ∃ y, ansDE (dyC n e) n e = y := ⟨_, rfl⟩
  rw [hGS, hGL, hGE]
  have HGS := hide hGS
  have HGL := hide hGL
  have HGE := hide hGE
  clear hGS hGL hGE
  have k0 : Kept 0 0 w (w.alloc (.cells #[.bool false, .slice none 0 0, .int .i64 0] 56)) := ((Kept.refl 0 0 w).alloc (.cells #[.bool false, .slice none 0 0, .int .i64 0] 56))
  have q0 : (w.alloc (.cells #[.bool false, .slice none 0 0, .int .i64 0] 56)).cell? ⟨w.heap.size, 0, none⟩ = some (.bool false) := new_cell2 _ _ _ _ _ _ (by simp) rfl
  have qf0 : (w.alloc (.cells #[.bool false, .slice none 0 0, .int .i64 0] 56)).frozen? ⟨w.heap.size, 0, none⟩ = false := new_loose2 _ _ _ _ _ (by simp)
  have q1 : (w.alloc (.cells #[.bool false, .slice none 0 0, .int .i64 0] 56)).cell? ⟨w.heap.size, 1, none⟩ = some (.slice none 0 0) := new_cell2 _ _ _ _ _ _ (by simp) rfl
  have qf1 : (w.alloc (.cells #[.bool false, .slice none 0 0, .int .i64 0] 56)).frozen? ⟨w.heap.size, 1, none⟩ = false := new_loose2 _ _ _ _ _ (by simp)
  have q2 : (w.alloc (.cells #[.bool false, .slice none 0 0, .int .i64 0] 56)).cell? ⟨w.heap.size, 2, none⟩ = some (.int .i64 0) := new_cell2 _ _ _ _ _ _ (by simp) rfl
  have qf2 : (w.alloc (.cells #[.bool false, .slice none 0 0, .int .i64 0] 56)).frozen? ⟨w.heap.size, 2, none⟩ = false := new_loose2 _ _ _ _ _ (by simp)
  have s0 : (w.alloc (.cells #[.bool false, .slice none 0 0, .int .i64 0] 56)).heap.size = w.heap.size + 1 := by simp
  have K := hide (k0)
  clear k0
  have S0 := hide s0
  clear s0
  go_enter Try.func46, Try.ntmps46
  go_wp2_with fail
  generalize (w.alloc (.cells #[.bool false, .slice none 0 0, .int .i64 0] 56)) = W at *
  refine (wOf_spec n hn1 hn0 _).mono ?_
  rintro e w1 ⟨v3, rfl, r3, k1⟩
  replace qf0 := k1.loose0 (World.block_lt_of_cell? _ _ q0) qf0
  replace qf1 := k1.loose0 (World.block_lt_of_cell? _ _ q1) qf1
  replace qf2 := k1.loose0 (World.block_lt_of_cell? _ _ q2) qf2
  replace q0 := k1.cell0 q0
  replace q1 := k1.cell0 q1
  replace q2 := k1.cell0 q2
  replace K := hide ((unhide K).trans k1)
  have z2 := k1.size
  clear k1
  go_wp2_with fail
  have mk := dof_spec (wsg n) e w1 r3
  rw [wval_int] at mk
  have j1 := unhide HGS
  have j2 := unhide HGL
  have j3 := unhide HGE
  unfold dyC at j1 j2 j3
  rw [j1, j2, j3] at mk
  clear j1 j2 j3
  generalize ansDB (wokB (wsg n) (wlm n) && l4eB e) n e = GB at *
  refine (mk).mono ?_
  rintro e w3 ⟨v5, rfl, r5, k3⟩
  replace r3 := r3.kept k3 (by omega)
  replace qf0 := k3.loose0 (World.block_lt_of_cell? _ _ q0) qf0
  replace qf1 := k3.loose0 (World.block_lt_of_cell? _ _ q1) qf1
  replace qf2 := k3.loose0 (World.block_lt_of_cell? _ _ q2) qf2
  replace q0 := k3.cell0 q0
  replace q1 := k3.cell0 q1
  replace q2 := k3.cell0 q2
  replace K := hide ((unhide K).trans k3)
  have z4 := k3.size
  clear k3
  clear mk
  obtain ⟨a5, c5, hv⟩ := Row.form' r5
  subst hv
  have kn := (Kept.refl 0 0 w3).alloc (.cells #[.bool GS, .slice a5 GL.length c5, .int .i64 GE] 56)
  have y0 : (w3.alloc (.cells #[.bool GS, .slice a5 GL.length c5, .int .i64 GE] 56)).cell? ⟨w3.heap.size, 0, none⟩ = some (.bool GS) := new_cell2 _ _ _ _ _ _ (by simp) rfl
  have y1 : (w3.alloc (.cells #[.bool GS, .slice a5 GL.length c5, .int .i64 GE] 56)).cell? ⟨w3.heap.size, 1, none⟩ = some (.slice a5 GL.length c5) := new_cell2 _ _ _ _ _ _ (by simp) rfl
  have y2 : (w3.alloc (.cells #[.bool GS, .slice a5 GL.length c5, .int .i64 GE] 56)).cell? ⟨w3.heap.size, 2, none⟩ = some (.int .i64 GE) := new_cell2 _ _ _ _ _ _ (by simp) rfl
  have sz5 : w3.heap.size + 1 ≤ (w3.alloc (.cells #[.bool GS, .slice a5 GL.length c5, .int .i64 GE] 56)).heap.size := by simp
  replace r3 := r3.kept kn (by omega)
  replace r5 := r5.kept kn (by omega)
  replace qf0 := kn.loose0 (World.block_lt_of_cell? _ _ q0) qf0
  replace qf1 := kn.loose0 (World.block_lt_of_cell? _ _ q1) qf1
  replace qf2 := kn.loose0 (World.block_lt_of_cell? _ _ q2) qf2
  replace q0 := kn.cell0 q0
  replace q1 := kn.cell0 q1
  replace q2 := kn.cell0 q2
  replace K := hide ((unhide K).trans kn)
  have z6 := kn.size
  clear kn
  go_wp2_with fail
  generalize (w3.alloc (.cells #[.bool GS, .slice a5 GL.length c5, .int .i64 GE] 56)) = wn7 at *
  have R := hide ((((r5.set_other (p := ⟨w.heap.size, 0, none⟩) (.inl (by have := unhide S0; dsimp only; omega)) (.bool GS)).set_other (p := ⟨w.heap.size, 1, none⟩) (.inl (by have := unhide S0; dsimp only; omega)) (.slice a5 GL.length c5)).set_other (p := ⟨w.heap.size, 2, none⟩) (.inl (by have := unhide S0; dsimp only; omega)) (.int .i64 GE)).tight.wider (lo' := w.heap.size) (by have := unhide S0; omega) (Nat.le_refl _))
  have K7 := hide ((((unhide K).setNew (p := ⟨w.heap.size, 0, none⟩) (by simp) (.bool GS)).setNew (p := ⟨w.heap.size, 1, none⟩) (by simp) (.slice a5 GL.length c5)).setNew (p := ⟨w.heap.size, 2, none⟩) (by simp) (.int .i64 GE))
  clear r3 r5 K 
  go_wp2_with fail
  exact bodyPost_ret (v := .agg #[.bool GS, .slice a5 GL.length c5, .int .i64 GE]) (by simp [results, Try.results46, go_sem, q0, q1, q2]) rfl ⟨_, rfl, unhide R, unhide K7⟩

set_option maxHeartbeats 4000000 in
theorem neg_law {bw : Bool} {lo hi : Nat} {v : Value} {zs : List Int} (s : Bool) (x : Int) (hx1 : x ≤ 9223372036854775807) (hx0 : -9223372036854775808 ≤ x) (w : World) (r : Row .i64 bw lo hi w v zs) (ho : dokB s zs x = true) :
    Calls Try.prog 105 #[.agg #[.bool s, v, .int .i64 x]] w fun e w' => ∃ v', e = .returned (.agg #[.bool (wsg (-wval s zs)), v', .int .i64 x]) ∧ Row .i64 true w.heap.size w'.heap.size w' v' zs ∧ Kept 0 0 w w' := by
  obtain ⟨ss, hss⟩ : ∃ y, wsg (-wval s zs) = y := ⟨_, rfl⟩
  rw [hss]
  have k0 : Kept 0 0 w ((w.alloc (.cells #[.bool s, v, .int .i64 x] 56)).alloc (.cells #[.bool false, .slice none 0 0, .int .i64 0] 56)) := (((Kept.refl 0 0 w).alloc (.cells #[.bool s, v, .int .i64 x] 56)).alloc (.cells #[.bool false, .slice none 0 0, .int .i64 0] 56))
  have p0 : ((w.alloc (.cells #[.bool s, v, .int .i64 x] 56)).alloc (.cells #[.bool false, .slice none 0 0, .int .i64 0] 56)).cell? ⟨w.heap.size, 0, none⟩ = some (.bool s) := old_cell _ (new_cell2 _ _ _ _ _ _ (by simp) rfl)
  have p1 : ((w.alloc (.cells #[.bool s, v, .int .i64 x] 56)).alloc (.cells #[.bool false, .slice none 0 0, .int .i64 0] 56)).cell? ⟨w.heap.size, 1, none⟩ = some (v) := old_cell _ (new_cell2 _ _ _ _ _ _ (by simp) rfl)
  have p2 : ((w.alloc (.cells #[.bool s, v, .int .i64 x] 56)).alloc (.cells #[.bool false, .slice none 0 0, .int .i64 0] 56)).cell? ⟨w.heap.size, 2, none⟩ = some (.int .i64 x) := old_cell _ (new_cell2 _ _ _ _ _ _ (by simp) rfl)
  have q0 : ((w.alloc (.cells #[.bool s, v, .int .i64 x] 56)).alloc (.cells #[.bool false, .slice none 0 0, .int .i64 0] 56)).cell? ⟨w.heap.size + 1, 0, none⟩ = some (.bool false) := new_cell2 _ _ _ _ _ _ (by simp) rfl
  have qf0 : ((w.alloc (.cells #[.bool s, v, .int .i64 x] 56)).alloc (.cells #[.bool false, .slice none 0 0, .int .i64 0] 56)).frozen? ⟨w.heap.size + 1, 0, none⟩ = false := new_loose2 _ _ _ _ _ (by simp)
  have q1 : ((w.alloc (.cells #[.bool s, v, .int .i64 x] 56)).alloc (.cells #[.bool false, .slice none 0 0, .int .i64 0] 56)).cell? ⟨w.heap.size + 1, 1, none⟩ = some (.slice none 0 0) := new_cell2 _ _ _ _ _ _ (by simp) rfl
  have qf1 : ((w.alloc (.cells #[.bool s, v, .int .i64 x] 56)).alloc (.cells #[.bool false, .slice none 0 0, .int .i64 0] 56)).frozen? ⟨w.heap.size + 1, 1, none⟩ = false := new_loose2 _ _ _ _ _ (by simp)
  have q2 : ((w.alloc (.cells #[.bool s, v, .int .i64 x] 56)).alloc (.cells #[.bool false, .slice none 0 0, .int .i64 0] 56)).cell? ⟨w.heap.size + 1, 2, none⟩ = some (.int .i64 0) := new_cell2 _ _ _ _ _ _ (by simp) rfl
  have qf2 : ((w.alloc (.cells #[.bool s, v, .int .i64 x] 56)).alloc (.cells #[.bool false, .slice none 0 0, .int .i64 0] 56)).frozen? ⟨w.heap.size + 1, 2, none⟩ = false := new_loose2 _ _ _ _ _ (by simp)
  replace r := r.kept k0 (by omega)
  have s0 : ((w.alloc (.cells #[.bool s, v, .int .i64 x] 56)).alloc (.cells #[.bool false, .slice none 0 0, .int .i64 0] 56)).heap.size = w.heap.size + 2 := by simp
  obtain ⟨a, c, hv⟩ := Row.form' r
  subst hv
  have K := hide (k0)
  clear k0
  have S0 := hide s0
  clear s0
  obtain ⟨b0, b1, b2, b3⟩ := d_ok ho (-wval s zs) (neg_abs (wok_int (dok_parts ho).1).2.2.2.1)
  go_enter Try.func105, Try.ntmps105
  go_wp2_with fail
  generalize ((w.alloc (.cells #[.bool s, .slice a zs.length c, .int .i64 x] 56)).alloc (.cells #[.bool false, .slice none 0 0, .int .i64 0] 56)) = W at *
  have mk := dneg_spec s x hx1 hx0 W r
  rw [ho, b1, b2, b3, hss] at mk
  refine (mk).mono ?_
  rintro e w1 ⟨v3, rfl, r3, k1⟩
  replace r := r.kept k1 (by omega)
  replace qf0 := k1.loose0 (World.block_lt_of_cell? _ _ q0) qf0
  replace qf1 := k1.loose0 (World.block_lt_of_cell? _ _ q1) qf1
  replace qf2 := k1.loose0 (World.block_lt_of_cell? _ _ q2) qf2
  replace p0 := k1.cell0 p0
  replace p1 := k1.cell0 p1
  replace p2 := k1.cell0 p2
  replace q0 := k1.cell0 q0
  replace q1 := k1.cell0 q1
  replace q2 := k1.cell0 q2
  replace K := hide ((unhide K).trans k1)
  have z2 := k1.size
  clear k1
  clear mk b0 b1 b2 b3 hss
  obtain ⟨a3, c3, hv⟩ := Row.form' r3
  subst hv
  have R := hide ((((r3.set_other (p := ⟨w.heap.size + 1, 0, none⟩) (.inl (by have := unhide S0; dsimp only; omega)) (.bool ss)).set_other (p := ⟨w.heap.size + 1, 1, none⟩) (.inl (by have := unhide S0; dsimp only; omega)) (.slice a3 zs.length c3)).set_other (p := ⟨w.heap.size + 1, 2, none⟩) (.inl (by have := unhide S0; dsimp only; omega)) (.int .i64 x)).tight.wider (lo' := w.heap.size) (by have := unhide S0; omega) (Nat.le_refl _))
  have K7 := hide ((((unhide K).setNew (p := ⟨w.heap.size + 1, 0, none⟩) (by simp) (.bool ss)).setNew (p := ⟨w.heap.size + 1, 1, none⟩) (by simp) (.slice a3 zs.length c3)).setNew (p := ⟨w.heap.size + 1, 2, none⟩) (by simp) (.int .i64 x))
  clear r r3 K 
  go_wp2_with fail
  exact bodyPost_ret (v := .agg #[.bool ss, .slice a3 zs.length c3, .int .i64 x]) (by simp [results, Try.results105, go_sem, q0, q1, q2]) rfl ⟨_, rfl, unhide R, unhide K7⟩

set_option maxHeartbeats 4000000 in
theorem abs_law {bw : Bool} {lo hi : Nat} {v : Value} {zs : List Int} (s : Bool) (x : Int) (hx1 : x ≤ 9223372036854775807) (hx0 : -9223372036854775808 ≤ x) (w : World) (r : Row .i64 bw lo hi w v zs) (ho : dokB s zs x = true) :
    Calls Try.prog 47 #[.agg #[.bool s, v, .int .i64 x]] w fun e w' => ∃ v', e = .returned (.agg #[.bool false, v', .int .i64 x]) ∧ Row .i64 false 0 w'.heap.size w' v' zs ∧ Kept 0 0 w w' := by
  replace r := r.tight
  have r0 := r
  have k0 : Kept 0 0 w ((w.alloc (.cells #[.bool s, v, .int .i64 x] 56)).alloc (.cells #[.bool false, .slice none 0 0, .int .i64 0] 56)) := (((Kept.refl 0 0 w).alloc (.cells #[.bool s, v, .int .i64 x] 56)).alloc (.cells #[.bool false, .slice none 0 0, .int .i64 0] 56))
  have p0 : ((w.alloc (.cells #[.bool s, v, .int .i64 x] 56)).alloc (.cells #[.bool false, .slice none 0 0, .int .i64 0] 56)).cell? ⟨w.heap.size, 0, none⟩ = some (.bool s) := old_cell _ (new_cell2 _ _ _ _ _ _ (by simp) rfl)
  have p1 : ((w.alloc (.cells #[.bool s, v, .int .i64 x] 56)).alloc (.cells #[.bool false, .slice none 0 0, .int .i64 0] 56)).cell? ⟨w.heap.size, 1, none⟩ = some (v) := old_cell _ (new_cell2 _ _ _ _ _ _ (by simp) rfl)
  have p2 : ((w.alloc (.cells #[.bool s, v, .int .i64 x] 56)).alloc (.cells #[.bool false, .slice none 0 0, .int .i64 0] 56)).cell? ⟨w.heap.size, 2, none⟩ = some (.int .i64 x) := old_cell _ (new_cell2 _ _ _ _ _ _ (by simp) rfl)
  have q0 : ((w.alloc (.cells #[.bool s, v, .int .i64 x] 56)).alloc (.cells #[.bool false, .slice none 0 0, .int .i64 0] 56)).cell? ⟨w.heap.size + 1, 0, none⟩ = some (.bool false) := new_cell2 _ _ _ _ _ _ (by simp) rfl
  have qf0 : ((w.alloc (.cells #[.bool s, v, .int .i64 x] 56)).alloc (.cells #[.bool false, .slice none 0 0, .int .i64 0] 56)).frozen? ⟨w.heap.size + 1, 0, none⟩ = false := new_loose2 _ _ _ _ _ (by simp)
  have q1 : ((w.alloc (.cells #[.bool s, v, .int .i64 x] 56)).alloc (.cells #[.bool false, .slice none 0 0, .int .i64 0] 56)).cell? ⟨w.heap.size + 1, 1, none⟩ = some (.slice none 0 0) := new_cell2 _ _ _ _ _ _ (by simp) rfl
  have qf1 : ((w.alloc (.cells #[.bool s, v, .int .i64 x] 56)).alloc (.cells #[.bool false, .slice none 0 0, .int .i64 0] 56)).frozen? ⟨w.heap.size + 1, 1, none⟩ = false := new_loose2 _ _ _ _ _ (by simp)
  have q2 : ((w.alloc (.cells #[.bool s, v, .int .i64 x] 56)).alloc (.cells #[.bool false, .slice none 0 0, .int .i64 0] 56)).cell? ⟨w.heap.size + 1, 2, none⟩ = some (.int .i64 0) := new_cell2 _ _ _ _ _ _ (by simp) rfl
  have qf2 : ((w.alloc (.cells #[.bool s, v, .int .i64 x] 56)).alloc (.cells #[.bool false, .slice none 0 0, .int .i64 0] 56)).frozen? ⟨w.heap.size + 1, 2, none⟩ = false := new_loose2 _ _ _ _ _ (by simp)
  replace r := r.kept k0 (by omega)
  have s0 : ((w.alloc (.cells #[.bool s, v, .int .i64 x] 56)).alloc (.cells #[.bool false, .slice none 0 0, .int .i64 0] 56)).heap.size = w.heap.size + 2 := by simp
  obtain ⟨a, c, hv⟩ := Row.form' r
  subst hv
  have K := hide (k0)
  clear k0
  have S0 := hide s0
  clear s0
  go_enter Try.func47, Try.ntmps47
  cases s
  · have R : Hid (Row .i64 bw lo w.heap.size ((w.alloc (.cells #[.bool false, .slice a zs.length c, .int .i64 x] 56)).alloc (.cells #[.bool false, .slice a zs.length c, .int .i64 x] 56)) (.slice a zs.length c) zs) := by
      have k9 : Kept 0 0 w ((w.alloc (.cells #[.bool false, .slice a zs.length c, .int .i64 x] 56)).alloc (.cells #[.bool false, .slice a zs.length c, .int .i64 x] 56)) := ((Kept.refl 0 0 w).alloc _).alloc _
      exact r0.kept k9 (by omega)
    have K9 : Hid (Kept 0 0 w ((w.alloc (.cells #[.bool false, .slice a zs.length c, .int .i64 x] 56)).alloc (.cells #[.bool false, .slice a zs.length c, .int .i64 x] 56))) := ((Kept.refl 0 0 w).alloc _).alloc _
    clear r K r0
    go_wp2_with fail
    exact bodyPost_ret (v := .agg #[.bool false, .slice a zs.length c, .int .i64 x]) (by simp [results, Try.results47, go_sem]) rfl ⟨_, rfl, (unhide R).read.tight.wider (Nat.zero_le _) (Nat.le_refl _), unhide K9⟩
  clear r0
  go_wp2_with fail
  generalize ((w.alloc (.cells #[.bool true, .slice a zs.length c, .int .i64 x] 56)).alloc (.cells #[.bool false, .slice none 0 0, .int .i64 0] 56)) = W at *
  have hs : wsg (-wval true zs) = false := by
    have h0 := val_nonneg (wok_int (dok_parts ho).1).2.2.2.1
    exact decide_eq_false (show ¬ -wval true zs < 0 by unfold wval; simp; omega)
  have mk := neg_law true x hx1 hx0 W r ho
  rw [hs] at mk
  refine (mk).mono ?_
  rintro e w1 ⟨v3, rfl, r3, k1⟩
  replace r := r.kept k1 (by omega)
  replace qf0 := k1.loose0 (World.block_lt_of_cell? _ _ q0) qf0
  replace qf1 := k1.loose0 (World.block_lt_of_cell? _ _ q1) qf1
  replace qf2 := k1.loose0 (World.block_lt_of_cell? _ _ q2) qf2
  replace p0 := k1.cell0 p0
  replace p1 := k1.cell0 p1
  replace p2 := k1.cell0 p2
  replace q0 := k1.cell0 q0
  replace q1 := k1.cell0 q1
  replace q2 := k1.cell0 q2
  replace K := hide ((unhide K).trans k1)
  have z2 := k1.size
  clear k1
  clear mk hs
  obtain ⟨a3, c3, hv⟩ := Row.form' r3
  subst hv
  have R := hide ((((r3.set_other (p := ⟨w.heap.size + 1, 0, none⟩) (.inl (by have := unhide S0; dsimp only; omega)) (.bool false)).set_other (p := ⟨w.heap.size + 1, 1, none⟩) (.inl (by have := unhide S0; dsimp only; omega)) (.slice a3 zs.length c3)).set_other (p := ⟨w.heap.size + 1, 2, none⟩) (.inl (by have := unhide S0; dsimp only; omega)) (.int .i64 x)).tight.wider (lo' := w.heap.size) (by have := unhide S0; omega) (Nat.le_refl _))
  have K7 := hide ((((unhide K).setNew (p := ⟨w.heap.size + 1, 0, none⟩) (by simp) (.bool false)).setNew (p := ⟨w.heap.size + 1, 1, none⟩) (by simp) (.slice a3 zs.length c3)).setNew (p := ⟨w.heap.size + 1, 2, none⟩) (by simp) (.int .i64 x))
  clear r r3 K 
  go_wp2_with fail
  exact bodyPost_ret (v := .agg #[.bool false, .slice a3 zs.length c3, .int .i64 x]) (by simp [results, Try.results47, go_sem, q0, q1, q2]) rfl ⟨_, rfl, (unhide R).read.wider (Nat.zero_le _) (Nat.le_refl _), unhide K7⟩

end Go.Proofs.Ytoijdclblcmpaaa
