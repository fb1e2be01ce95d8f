/-
  Numbers whose lists may begin behind their blocks' first cells: bit; makeOdd and toldDyadic of dyadic ones.
-/
import Derived.Test.YthahoabkehcgbaaGreatDoorqoDy7
import Derived.Test.YthahoabkehcgbaaGreatDoorqoWrk3
namespace Go.Proofs.YthahoabkehcgbaaGreatDoor
open Go.RowKit
set_option linter.unusedVariables false
set_option maxRecDepth 8000
set_option linter.unusedSimpArgs false

set_option maxHeartbeats 1000000 in
theorem bit_work {b g : Nat} {v : Value} {zs : List Int} (w : World) (h : Work b w g v zs) (hl : Lim zs) (i : Int) (hi0 : 0 ≤ i) (hi1 : i ≤ 9223372036854775807) :
    Calls Tryz.prog 208 #[.pointer (some ⟨g, 0, none⟩), .int .i64 i] w fun e w' => e = .returned (.int .i64 (bitAt (val zs).toNat i)) ∧ w' = w := by
  obtain ⟨q, s, hs, e⟩ : ∃ q s : Nat, s < 16 ∧ i = ((16 * q + s : Nat) : Int) := ⟨(i / 16).toNat, (i % 16).toNat, by omega, by omega⟩
  have hq := hl.at q
  have e1 := bit_limb hl q s hs
  have eI : i.toNat = 16 * q + s := by omega
  have eB : bitAt (val zs).toNat i = (((zs.getD q 0).toNat / 2 ^ s % 2 : Nat) : Int) := by
    unfold bitAt; rw [if_neg (by omega), eI, e1]
  rw [eB]
  obtain ⟨t, et⟩ : ∃ t : Nat, zs.getD q 0 = t := ⟨(zs.getD q 0).toNat, by omega⟩
  rw [et, Int.toNat_natCast]
  have e3 : i.tdiv 16 = (q : Int) := by rw [Int.tdiv_eq_ediv_of_nonneg (by omega)]; omega
  have e4 : i.tmod 16 = (s : Int) := by rw [Int.tmod_eq_emod_of_nonneg (by omega)]; omega
  have hat := at_work w h q (by omega)
  rw [et] at hat hq
  have HA := hide hat
  have hw1 : ¬ ((s : Int) < 0) := by omega
  have hs64 : (s : Int) < 64 := by omega
  have hqr : (q : Int) ≤ 9223372036854775807 := by omega
  clear h hl eB e1 eI hat et e
  go_enter Tryz.func208, Tryz.ntmps208
  go_wp2_with (go_at_call 204; refine (unhide HA).mono ?_; rintro e w' ⟨rfl, rfl⟩)
  go_ret
  exact ⟨ret_int (by rw [and_one]; simp), rfl⟩

set_option maxHeartbeats 2000000 in
theorem makeOdd_wrk {b g : Nat} {v : Value} {zs : List Int} {s : Bool} {x : Int} (m : Int) (hmm : wval s zs = m) (w : World) (h : Wrk b w g v zs) (d : Sd w g s) (ex : Ex w g x) (hn : Nrm zs) (nx : zs.length ≤ 50000) (hx1 : x ≤ 1000000) (hx0 : -1000000 ≤ x) (T : TabB w) :
    Calls Tryz.prog 137 #[.pointer (some ⟨g, 0, none⟩)] w fun e w' => (∃ r, e = .returned r) ∧ ∃ u, Work b w' g u (dlm m) ∧ Sd w' g s ∧ Ex w' g (dex m x) ∧ Mod (Own1 g v) w w' := by
  have hc2 := ex.1
  have hf2 := ex.2
  have hz := isZero_work w h.work
  have hmod : Mod (Own1 g v) w (w.setCell ⟨g, 2, none⟩ (.int .i64 0)) := Mod.set (S := Own1 g v) (Mod.refl _ _) (p := ⟨g, 2, none⟩) (.inl (.inl rfl)) _
  go_enter Tryz.func137, Tryz.ntmps137
  go_wp2_with fail
  refine hz.mono ?_
  rintro e w1 ⟨rfl, rfl⟩
  clear hz
  by_cases h0 : zs.length = 0
  · rw [decide_eq_true h0]
    have hzs : zs = [] := List.length_eq_zero_iff.1 h0
    have hm0 : m = 0 := by rw [← hmm, hzs, wval_nil]
    have FF : Hid (Work b (w1.setCell ⟨g, 2, none⟩ (.int .i64 0)) g v (dlm m) ∧ Sd (w1.setCell ⟨g, 2, none⟩ (.int .i64 0)) g s ∧ Ex (w1.setCell ⟨g, 2, none⟩ (.int .i64 0)) g (dex m x) ∧ Mod (Own1 g v) w1 (w1.setCell ⟨g, 2, none⟩ (.int .i64 0))) := by
      refine ⟨?_, d.set2 _, ?_, hmod⟩
      · rw [hm0, dlm_zero, ← hzs]; exact h.work.set2 _
      · rw [hm0]; exact ex.set 0
    clear h d ex hzs hm0 hmod hn T hmm
    go_wp2_with fail
    exact bodyPost_ret (v := .tuple #[]) (by simp [results, Tryz.results137, go_sem]) rfl ⟨⟨_, rfl⟩, _, unhide FF⟩
  rw [decide_eq_false h0]
  clear hmod
  go_wp2_with fail
  refine (trail_impl _ h.work hn.1 (by omega) T).mono ?_
  rintro e w2 ⟨t, rfl, ht, rfl⟩
  obtain ⟨g1, g2, g3⟩ := shr_wn (⟨hn, fun _ => by omega⟩ : WN s zs) (by omega)
  rw [hmm] at g1 g2 g3
  have hte := tz_eq ht
  have hdx : dex m x = x + (t : Int) := by unfold dex; rw [if_neg g3, ← hmm, wval_abs hn.1, hte]
  have htz : t < 16 * zs.length := by rw [hte]; exact tz_lt (by have := wval_abs (s := s) hn.1; rw [hmm] at this; omega) (by have h1 := val_lt hn.1; have h2 := val_nonneg hn.1; rw [pow_limb] at h1; omega)
  have hdl : limbs ((val zs).toNat / 2 ^ t) = dlm m := by unfold dlm; rw [← hmm, wval_abs hn.1, hte]
  clear ht hte g1 g2 g3 T
  go_wp2_with fail
  refine (shiftDown_wrk _ h hn.1 (by omega) t (by omega)).mono ?_
  rintro e w3 ⟨⟨r3, rfl⟩, u3, n3', -, m3, sd3⟩
  have n3 := n3'.work
  clear n3'
  rw [hdl] at n3
  have ex3 := ex.tail sd3.tail
  have d3 := d.same sd3
  have hc3 := ex3.1
  have hf3 := ex3.2
  have hw : IntKind.i64.wrap (x + (t : Int)) = x + (t : Int) := w64 _ (by omega) (by omega)
  have FF : Hid (Work b (w3.setCell ⟨g, 2, none⟩ (.int .i64 (x + (t : Int)))) g u3 (dlm m) ∧ Sd (w3.setCell ⟨g, 2, none⟩ (.int .i64 (x + (t : Int)))) g s ∧ Ex (w3.setCell ⟨g, 2, none⟩ (.int .i64 (x + (t : Int)))) g (dex m x) ∧ Mod (Own1 g v) w2 (w3.setCell ⟨g, 2, none⟩ (.int .i64 (x + (t : Int))))) := by
    refine ⟨n3.set2 _, d3.set2 _, ?_, Mod.set (S := Own1 g v) m3 (p := ⟨g, 2, none⟩) (.inl (.inl rfl)) _⟩
    rw [hdx]; exact ex3.set _
  clear h d ex n3 m3 sd3 d3 ex3 hdl hdx hc2 hf2 hn hmm
  go_wp2_with fail
  exact bodyPost_end (v := .tuple #[]) (by simp [results, Tryz.results137, go_sem]) rfl ⟨⟨_, rfl⟩, _, unhide FF⟩

set_option maxHeartbeats 4000000 in
theorem toldDyadic_wrk {b g : Nat} {v : Value} {zs : List Int} {s : Bool} {x : Int} (m : Int) (hmm : wval s zs = m) (w : World) (h : Wrk b w g v zs) (d : Sd w g s) (ex : Ex w g x) (hn : Nrm zs) (nx : zs.length ≤ 50000) (hx1 : x ≤ 1000000) (hx0 : -1000000 ≤ x) (T : TabB w) :
    Calls Tryz.prog 74 #[.pointer (some ⟨g, 0, none⟩)] w fun e w' => ∃ v', e = .returned (.tuple #[.agg #[.bool (ansDS true m x), v', .int .i64 (ansDE true m x)], .bool (ansDB true m x)]) ∧ Row .i64 true w.heap.size w'.heap.size w' v' (ansDL true m x) ∧ Mod (Own1 g v) w w' := by
  obtain ⟨GS, hGS⟩ : ∃ y, ansDS true m x = y := ⟨_, rfl⟩
  obtain ⟨GL, hGL⟩ : ∃ y, ansDL true m x = y := ⟨_, rfl⟩
  obtain ⟨GE, hGE⟩ : ∃ y, ansDE true m x = y := ⟨_, rfl⟩
  obtain ⟨GB, hGB⟩ : ∃ y, ansDB true m x = y := ⟨_, rfl⟩
  rw [hGS, hGL, hGE, hGB]
  have HGS := hide hGS
  have HGL := hide hGL
  have HGE := hide hGE
  have HGB := hide hGB
  clear hGS hGL hGE hGB
  have own := fun k (e : v.ownBlock = some k) => h.own.lt e
  have lg := h.lt
  have k0 : Kept 0 0 w (w.alloc (.cells #[.bool false, .slice none 0 0, .int .i64 0] 52)) := ((Kept.refl 0 0 w).alloc (.cells #[.bool false, .slice none 0 0, .int .i64 0] 52))
  have q0 : (w.alloc (.cells #[.bool false, .slice none 0 0, .int .i64 0] 52)).cell? ⟨w.heap.size, 0, none⟩ = some (.bool false) := new_cell2 _ _ _ _ _ _ (by simp) rfl
  have qf0 : (w.alloc (.cells #[.bool false, .slice none 0 0, .int .i64 0] 52)).frozen? ⟨w.heap.size, 0, none⟩ = false := new_loose2 _ _ _ _ _ (by simp)
  have q1 : (w.alloc (.cells #[.bool false, .slice none 0 0, .int .i64 0] 52)).cell? ⟨w.heap.size, 1, none⟩ = some (.slice none 0 0) := new_cell2 _ _ _ _ _ _ (by simp) rfl
  have qf1 : (w.alloc (.cells #[.bool false, .slice none 0 0, .int .i64 0] 52)).frozen? ⟨w.heap.size, 1, none⟩ = false := new_loose2 _ _ _ _ _ (by simp)
  have q2 : (w.alloc (.cells #[.bool false, .slice none 0 0, .int .i64 0] 52)).cell? ⟨w.heap.size, 2, none⟩ = some (.int .i64 0) := new_cell2 _ _ _ _ _ _ (by simp) rfl
  have qf2 : (w.alloc (.cells #[.bool false, .slice none 0 0, .int .i64 0] 52)).frozen? ⟨w.heap.size, 2, none⟩ = false := new_loose2 _ _ _ _ _ (by simp)
  have s0 : (w.alloc (.cells #[.bool false, .slice none 0 0, .int .i64 0] 52)).heap.size = w.heap.size + 1 := by simp
  have K := hide (k0)
  clear k0
  have S0 := hide s0
  clear s0
  have kk := (Kept.refl 0 0 w).alloc (.cells #[.bool false, .slice none 0 0, .int .i64 0] 52)
  replace h := h.kept kk
  replace d := d.kept kk
  replace ex := ex.kept kk
  replace T := T.kept kk
  clear kk
  go_enter Tryz.func74, Tryz.ntmps74
  go_wp2_with fail
  generalize (w.alloc (.cells #[.bool false, .slice none 0 0, .int .i64 0] 52)) = W at *
  refine (makeOdd_wrk m hmm _ h d ex hn nx hx1 hx0 T).mono ?_
  rintro e w1 ⟨⟨r1, rfl⟩, u1, h1, d1, ex1, m1⟩
  have nS : ¬ Own1 g v w.heap.size := fun e => e.elim (fun e => by omega) (fun e => by have := (own _ e).2; omega)
  replace qf0 := m1.loose (a := ⟨w.heap.size, 0, none⟩) nS (World.block_lt_of_cell? _ _ q0) qf0
  replace qf1 := m1.loose (a := ⟨w.heap.size, 1, none⟩) nS (World.block_lt_of_cell? _ _ q1) qf1
  replace qf2 := m1.loose (a := ⟨w.heap.size, 2, none⟩) nS (World.block_lt_of_cell? _ _ q2) qf2
  replace q0 := m1.cell (a := ⟨w.heap.size, 0, none⟩) nS q0
  replace q1 := m1.cell (a := ⟨w.heap.size, 1, none⟩) nS q1
  replace q2 := m1.cell (a := ⟨w.heap.size, 2, none⟩) nS q2
  have K1 : Hid (Mod (Own1 g v) w w1) := Mod.trans (unhide K).toMod m1
  have zz1 := m1.size
  clear h d ex T m1 K
  go_wp2_with fail
  refine (toldSigned_work _ h1 d1).mono ?_
  rintro e w2 ⟨v2, rfl, r2, k2⟩
  replace K1 := hide ((unhide K1).kept k2)
  replace ex1 := ex1.kept k2
  have zz2 := k2.size
  replace qf0 := k2.loose0 (World.block_lt_of_cell? _ _ q0) qf0
  replace qf1 := k2.loose0 (World.block_lt_of_cell? _ _ q1) qf1
  replace qf2 := k2.loose0 (World.block_lt_of_cell? _ _ q2) qf2
  replace q0 := k2.cell0 q0
  replace q1 := k2.cell0 q1
  replace q2 := k2.cell0 q2
  clear k2 h1 d1
  have hsg := told_sign m s _ hn hmm
  have hans := dok_told m x
  have hB0 : ansDB true m x = dokB (wsg m) (dlm m) (dex m x) := rfl
  rw [hans, unhide HGB] at hB0
  clear hans
  rw [hsg]
  clear hsg hn hmm
  have hrx : tell (dlm m) = (if (dlm m).length ≤ 100 then dlm m else []) := rfl
  have hcx := ex1.1
  obtain ⟨X, hX⟩ : ∃ X, dex m x = X := ⟨_, rfl⟩
  rw [hX] at hcx hB0
  have HX := hide hX
  clear hX ex1
  obtain ⟨T2, hT2⟩ : ∃ y, tell (dlm m) = y := ⟨_, rfl⟩
  rw [hT2] at r2
  obtain ⟨SG, hSG⟩ : ∃ y, (decide ((dlm m).length ≤ 100) && wsg m) = y := ⟨_, rfl⟩
  rw [hSG]
  obtain ⟨a2, c2, hv⟩ := Row.form' r2
  subst hv
  have kn := (Kept.refl 0 0 w2).alloc (.cells #[.bool SG, .slice a2 T2.length c2] 50)
  have y0 : (w2.alloc (.cells #[.bool SG, .slice a2 T2.length c2] 50)).cell? ⟨w2.heap.size, 0, none⟩ = some (.bool SG) := new_cell2 _ _ _ _ _ _ rfl rfl
  have y1 : (w2.alloc (.cells #[.bool SG, .slice a2 T2.length c2] 50)).cell? ⟨w2.heap.size, 1, none⟩ = some (.slice a2 T2.length c2) := new_cell2 _ _ _ _ _ _ rfl rfl
  replace K1 := hide ((unhide K1).kept kn)
  replace hcx := kn.cell0 hcx
  replace r2 := r2.kept kn (by omega)
  have zz3 := kn.size
  have zz4 : w2.heap.size < (w2.alloc (.cells #[.bool SG, .slice a2 T2.length c2] 50)).heap.size := by simp
  replace qf0 := kn.loose0 (World.block_lt_of_cell? _ _ q0) qf0
  replace qf1 := kn.loose0 (World.block_lt_of_cell? _ _ q1) qf1
  replace qf2 := kn.loose0 (World.block_lt_of_cell? _ _ q2) qf2
  replace q0 := kn.cell0 q0
  replace q1 := kn.cell0 q1
  replace q2 := kn.cell0 q2
  clear kn
  by_cases hl : (dlm m).length ≤ 100
  rotate_left
  · rw [decide_eq_false hl]
    have hl' := hide hl
    have hno : GB = false := by rw [hB0]; simp [hl]
    have HF : Hid (GS = false ∧ GL = [] ∧ GE = 0 ∧ GB = false) := by
      obtain ⟨b1, b2, b3⟩ := ansD_no (c := true) (m := m) (x := x) (by rw [unhide HGB, hno])
      exact ⟨by rw [← unhide HGS, b1], by rw [← unhide HGL, b2], by rw [← unhide HGE, b3], hno⟩
    have KF := hide (Mod.set (S := Own1 g v) (Mod.set (S := Own1 g v) (Mod.set (S := Own1 g v) (unhide K1) (p := ⟨w.heap.size, 0, none⟩) (.inr (Nat.le_refl _)) (.bool false)) (p := ⟨w.heap.size, 1, none⟩) (.inr (Nat.le_refl _)) (.slice none 0 0)) (p := ⟨w.heap.size, 2, none⟩) (.inr (Nat.le_refl _)) (.int .i64 0))
    clear r2 hB0 hno hT2 hSG hrx K1
    go_wp2_with fail
    exact bodyPost_ret (v := .tuple #[.agg #[.bool false, .slice none 0 0, .int .i64 0], .bool false]) (by simp [results, Tryz.results74, go_sem, q0, q1, q2]) rfl ⟨_, by rw [(unhide HF).1, (unhide HF).2.2.1, (unhide HF).2.2.2], by rw [(unhide HF).2.1]; exact Row.nil _ _ _ _ _, unhide KF⟩
  rw [decide_eq_true hl]
  by_cases hlo : X < -3000
  · have hno : GB = false := by rw [hB0]; simp [show ¬ -3000 ≤ X by omega]
    have HF : Hid (GS = false ∧ GL = [] ∧ GE = 0 ∧ GB = false) := by
      obtain ⟨b1, b2, b3⟩ := ansD_no (c := true) (m := m) (x := x) (by rw [unhide HGB, hno])
      exact ⟨by rw [← unhide HGS, b1], by rw [← unhide HGL, b2], by rw [← unhide HGE, b3], hno⟩
    have KF := hide (Mod.set (S := Own1 g v) (Mod.set (S := Own1 g v) (Mod.set (S := Own1 g v) (unhide K1) (p := ⟨w.heap.size, 0, none⟩) (.inr (Nat.le_refl _)) (.bool false)) (p := ⟨w.heap.size, 1, none⟩) (.inr (Nat.le_refl _)) (.slice none 0 0)) (p := ⟨w.heap.size, 2, none⟩) (.inr (Nat.le_refl _)) (.int .i64 0))
    clear r2 hB0 hno hT2 hSG hrx K1
    go_wp2_with fail
    exact bodyPost_ret (v := .tuple #[.agg #[.bool false, .slice none 0 0, .int .i64 0], .bool false]) (by simp [results, Tryz.results74, go_sem, q0, q1, q2]) rfl ⟨_, by rw [(unhide HF).1, (unhide HF).2.2.1, (unhide HF).2.2.2], by rw [(unhide HF).2.1]; exact Row.nil _ _ _ _ _, unhide KF⟩
  by_cases hhi : 3000 < X
  · have hno : GB = false := by rw [hB0]; simp [show ¬ X ≤ 3000 by omega]
    have HF : Hid (GS = false ∧ GL = [] ∧ GE = 0 ∧ GB = false) := by
      obtain ⟨b1, b2, b3⟩ := ansD_no (c := true) (m := m) (x := x) (by rw [unhide HGB, hno])
      exact ⟨by rw [← unhide HGS, b1], by rw [← unhide HGL, b2], by rw [← unhide HGE, b3], hno⟩
    have KF := hide (Mod.set (S := Own1 g v) (Mod.set (S := Own1 g v) (Mod.set (S := Own1 g v) (unhide K1) (p := ⟨w.heap.size, 0, none⟩) (.inr (Nat.le_refl _)) (.bool false)) (p := ⟨w.heap.size, 1, none⟩) (.inr (Nat.le_refl _)) (.slice none 0 0)) (p := ⟨w.heap.size, 2, none⟩) (.inr (Nat.le_refl _)) (.int .i64 0))
    clear r2 hB0 hno hT2 hSG hrx K1
    go_wp2_with fail
    exact bodyPost_ret (v := .tuple #[.agg #[.bool false, .slice none 0 0, .int .i64 0], .bool false]) (by simp [results, Tryz.results74, go_sem, q0, q1, q2]) rfl ⟨_, by rw [(unhide HF).1, (unhide HF).2.2.1, (unhide HF).2.2.2], by rw [(unhide HF).2.1]; exact Row.nil _ _ _ _ _, unhide KF⟩
  have hyes : GB = true := by rw [hB0, decide_eq_true hl, decide_eq_true (show -3000 ≤ X by omega), decide_eq_true (show X ≤ 3000 by omega)]; rfl
  obtain ⟨b1, b2, b3⟩ := ansD_yes (c := true) (m := m) (x := x) (by rw [unhide HGB, hyes])
  rw [unhide HGS] at b1
  rw [unhide HGL] at b2
  rw [unhide HGE, unhide HX] at b3
  rw [decide_eq_true hl, Bool.true_and, ← b1] at hSG
  rw [hrx, if_pos hl, ← b2] at hT2
  subst hSG
  subst hT2
  have HY := hide hyes
  have HE3 := hide b3
  clear hyes b1 b2 b3 hB0 hrx hl
  go_wp2_with fail
  generalize (w2.alloc (.cells #[.bool GS, .slice a2 GL.length c2] 50)) = W3 at *
  have n_q0 := q0
  have n_qf0 := qf0
  have n_q1 := q1
  have n_qf1 := qf1
  have n_q2 := q2
  have n_qf2 := qf2
  have hcx' := hcx
  refine wp_region_held_drew (S := (fun w' => w'.cell? ⟨w2.heap.size, 0, none⟩ = some (.bool GS) ∧ w'.cell? ⟨w2.heap.size, 1, none⟩ = some (.slice a2 GL.length c2) ∧ w'.cell? ⟨g, 2, none⟩ = some (.int .i64 X))) (by kernel_rfl) ?_ (fun hHeld => ?_)
  · exact ⟨y0, y1, hcx⟩
  refine wpAnyH_take (i := 0) (oi := _) (v := .agg #[.bool GS, .slice a2 GL.length c2]) rfl (by kernel_rfl) (by kernel_rfl) (by kernel_rfl) (fun _ _ _ h => h) (Or.inl ⟨by rfl, ?_⟩) hHeld ?_
  · intro wq hSw
    try dsimp only at hSw
    go_simp
  try simp only [Act.put, List.getElem_toArray, List.getElem_cons_succ, List.getElem_cons_zero, List.setIfInBounds_toArray, List.set_cons_zero, List.set_cons_succ]
  refine wpAnyH_take (i := 1) (oi := _) (v := .pointer (some ⟨g, 0, none⟩)) rfl (by kernel_rfl) (by kernel_rfl) (by kernel_rfl) (fun _ _ _ h => h) (Or.inl ⟨by rfl, ?_⟩) hHeld ?_
  · intro wq hSw
    try dsimp only at hSw
    go_simp
  try simp only [Act.put, List.getElem_toArray, List.getElem_cons_succ, List.getElem_cons_zero, List.setIfInBounds_toArray, List.set_cons_zero, List.set_cons_succ]
  refine wpAnyH_take (i := 2) (oi := _) (v := .pointer (some ⟨g, 0, none⟩)) rfl (by kernel_rfl) (by kernel_rfl) (by kernel_rfl) (fun _ _ _ h => h) (Or.inl ⟨by rfl, ?_⟩) hHeld ?_
  · intro wq hSw
    try dsimp only at hSw
    go_simp
  try simp only [Act.put, List.getElem_toArray, List.getElem_cons_succ, List.getElem_cons_zero, List.setIfInBounds_toArray, List.set_cons_zero, List.set_cons_succ]
  refine wpAnyH_take (i := 3) (oi := _) (v := .pointer (some ⟨g, 2, none⟩)) rfl (by kernel_rfl) (by kernel_rfl) (by kernel_rfl) (fun _ _ _ h => h) (Or.inl ⟨by rfl, ?_⟩) hHeld ?_
  · intro wq hSw
    try dsimp only at hSw
    go_simp
  try simp only [Act.put, List.getElem_toArray, List.getElem_cons_succ, List.getElem_cons_zero, List.setIfInBounds_toArray, List.set_cons_zero, List.set_cons_succ]
  refine wpAnyH_take (i := 4) (oi := _) (v := .int .i64 X) rfl (by kernel_rfl) (by kernel_rfl) (by kernel_rfl) (fun _ _ _ h => h) (Or.inl ⟨by rfl, ?_⟩) hHeld ?_
  · intro wq hSw
    try dsimp only at hSw
    go_simp
  try simp only [Act.put, List.getElem_toArray, List.getElem_cons_succ, List.getElem_cons_zero, List.setIfInBounds_toArray, List.set_cons_zero, List.set_cons_succ]
  refine wpAnyH_take (i := 5) (oi := _) (v := .agg #[.bool GS, .slice a2 GL.length c2, .int .i64 X]) rfl (by kernel_rfl) (by kernel_rfl) (by kernel_rfl) (fun _ _ _ h => h) (Or.inl ⟨by rfl, ?_⟩) hHeld ?_
  · intro wq hSw
    try dsimp only at hSw
    go_simp
  try simp only [Act.put, List.getElem_toArray, List.getElem_cons_succ, List.getElem_cons_zero, List.setIfInBounds_toArray, List.set_cons_zero, List.set_cons_succ]
  refine wpAnyH_ready (rs := [6]) (by kernel_rfl) (by simp) ?_
  refine AllReadyH.cons rfl (fun KK hK => ?_) AllReadyH.nil
  simp only [List.getElem_toArray, List.getElem_cons_succ, List.getElem_cons_zero]
  rw [if_pos (by rfl)]
  go_simp
  clear hHeld
  refine hK.out _ _ ?_ (fun hHeld => ?_)
  · exact ⟨(cell_aside _ (by have := unhide S0; dsimp only; omega) (cell_aside _ (by have := unhide S0; dsimp only; omega) (cell_aside _ (by have := unhide S0; dsimp only; omega) y0))), (cell_aside _ (by have := unhide S0; dsimp only; omega) (cell_aside _ (by have := unhide S0; dsimp only; omega) (cell_aside _ (by have := unhide S0; dsimp only; omega) y1))), (cell_aside _ (by have := unhide S0; dsimp only; omega) (cell_aside _ (by have := unhide S0; dsimp only; omega) (cell_aside _ (by have := unhide S0; dsimp only; omega) hcx)))⟩
  clear hK KK
  try simp only [Act.put, List.getElem_toArray, List.getElem_cons_succ, List.getElem_cons_zero, List.setIfInBounds_toArray, List.set_cons_zero, List.set_cons_succ]
  refine wpAnyH_take (i := 7) (oi := _) (v := .bool true) rfl (by kernel_rfl) (by kernel_rfl) (by kernel_rfl) (fun _ _ _ h => h) (Or.inl ⟨by rfl, ?_⟩) hHeld ?_
  · intro wq hSw
    try dsimp only at hSw
    go_simp
  try simp only [Act.put, List.getElem_toArray, List.getElem_cons_succ, List.getElem_cons_zero, List.setIfInBounds_toArray, List.set_cons_zero, List.set_cons_succ]
  refine wpAnyH_done (by kernel_rfl) ?_ _
  clear hHeld
  have RR := hide ((((r2.set_other (p := ⟨w.heap.size, 0, none⟩) (.inl (by have := unhide S0; dsimp only; omega)) (.bool GS)).set_other (p := ⟨w.heap.size, 1, none⟩) (.inl (by have := unhide S0; dsimp only; omega)) (.slice a2 GL.length c2)).set_other (p := ⟨w.heap.size, 2, none⟩) (.inl (by have := unhide S0; dsimp only; omega)) (.int .i64 X)).tight.wider (lo' := w.heap.size) (by have := unhide S0; omega) (Nat.le_refl _))
  have KF := hide (Mod.set (S := Own1 g v) (Mod.set (S := Own1 g v) (Mod.set (S := Own1 g v) (unhide K1) (p := ⟨w.heap.size, 0, none⟩) (.inr (Nat.le_refl _)) (.bool GS)) (p := ⟨w.heap.size, 1, none⟩) (.inr (Nat.le_refl _)) (.slice a2 GL.length c2)) (p := ⟨w.heap.size, 2, none⟩) (.inr (Nat.le_refl _)) (.int .i64 X))
  clear r2 K1
  go_wp2_with fail
  exact bodyPost_ret (v := .tuple #[.agg #[.bool GS, .slice a2 GL.length c2, .int .i64 X], .bool true]) (by simp [results, Tryz.results74, go_sem, q0, q1, q2, n_q0, n_q1, n_q2]) rfl ⟨_, by rw [unhide HY, unhide HE3], unhide RR, (unhide KF).kept (Kept.refl 0 0 _).drew⟩

end Go.Proofs.YthahoabkehcgbaaGreatDoor

