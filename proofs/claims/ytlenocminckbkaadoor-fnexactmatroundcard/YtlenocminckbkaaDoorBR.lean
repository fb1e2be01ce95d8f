/-
  Contracts that the proofs of this seat share: Wrk4, Rnd2, Rnd1, Step2, Rnd3, Rnd4.
-/
import Derived.Test.YtlenocminckbkaaDoorDy7
import Derived.Test.YtlenocminckbkaaDoorBV
import Derived.Test.YtlenocminckbkaaDoorBA
import Derived.Test.YtlenocminckbkaaDoorChecked
import Derived.Test.YtlenocminckbkaaDoorBC
import Derived.Deep.DeepCutAuto
import Derived.WalkSpells
import Derived.WalkLawsBesides
import Derived.Test.YtlenocminckbkaaDoorBK
import Derived.Test.YtlenocminckbkaaDoorDy6
namespace Go.Proofs.YtlenocminckbkaaDoor
open Go.RowKit
set_option linter.unusedVariables false
set_option maxRecDepth 8000
set_option linter.unusedSimpArgs false

set_option maxHeartbeats 1000000 in
theorem bit_work {b g : Nat} {v : Value} {zs : List Int} (w : World) (h : Work b w g v zs) (hl : Lim zs) (i : Int) (hi0 : 0 ≤ i) (hi1 : i ≤ 9223372036854775807) :
    Calls Tryd.prog 60 #[.pointer (some ⟨g, 0, none⟩), .int .i64 i] w fun e w' => e = .returned (.int .i64 (bitAt (val zs).toNat i)) ∧ w' = w := by
  obtain ⟨q, s, hs, e⟩ : ∃ q s : Nat, s < 16 ∧ i = ((16 * q + s : Nat) : Int) := ⟨(i / 16).toNat, (i % 16).toNat, by omega, by omega⟩
  have hq := hl.at q
  have e1 := bit_limb hl q s hs
  have eI : i.toNat = 16 * q + s := by omega
  have eB : bitAt (val zs).toNat i = (((zs.getD q 0).toNat / 2 ^ s % 2 : Nat) : Int) := by
    unfold bitAt; rw [if_neg (by omega), eI, e1]
  rw [eB]
  obtain ⟨t, et⟩ : ∃ t : Nat, zs.getD q 0 = t := ⟨(zs.getD q 0).toNat, by omega⟩
  rw [et, Int.toNat_natCast]
  have e3 : i.tdiv 16 = (q : Int) := by rw [Int.tdiv_eq_ediv_of_nonneg (by omega)]; omega
  have e4 : i.tmod 16 = (s : Int) := by rw [Int.tmod_eq_emod_of_nonneg (by omega)]; omega
  have hat := at_work w h q (by omega)
  rw [et] at hat hq
  have HA := hide hat
  have hw1 : ¬ ((s : Int) < 0) := by omega
  have hs64 : (s : Int) < 64 := by omega
  have hqr : (q : Int) ≤ 9223372036854775807 := by omega
  clear h hl eB e1 eI hat et e
  go_enter Tryd.func60, Tryd.ntmps60
  go_wp2_with (go_at_call 80; refine (unhide HA).mono ?_; rintro e w' ⟨rfl, rfl⟩)
  go_ret
  exact ⟨ret_int (by rw [and_one]; simp), rfl⟩

set_option maxHeartbeats 2000000 in
theorem makeOdd_wrk {b g : Nat} {v : Value} {zs : List Int} {s : Bool} {x : Int} (m : Int) (hmm : wval s zs = m) (w : World) (h : Wrk b w g v zs) (d : Sd w g s) (ex : Ex w g x) (hn : Nrm zs) (nx : zs.length ≤ 50000) (hx1 : x ≤ 1000000) (hx0 : -1000000 ≤ x) (T : TabB w) :
    Calls Tryd.prog 65 #[.pointer (some ⟨g, 0, none⟩)] w fun e w' => (∃ r, e = .returned r) ∧ ∃ u, Work b w' g u (dlm m) ∧ Sd w' g s ∧ Ex w' g (dex m x) ∧ Mod (Own1 g v) w w' := by
  have hc2 := ex.1
  have hf2 := ex.2
  have hz := isZero_work w h.work
  have hmod : Mod (Own1 g v) w (w.setCell ⟨g, 2, none⟩ (.int .i64 0)) := Mod.set (S := Own1 g v) (Mod.refl _ _) (p := ⟨g, 2, none⟩) (.inl (.inl rfl)) _
  go_enter Tryd.func65, Tryd.ntmps65
  go_wp2_with fail
  refine hz.mono ?_
  rintro e w1 ⟨rfl, rfl⟩
  clear hz
  by_cases h0 : zs.length = 0
  · rw [decide_eq_true h0]
    have hzs : zs = [] := List.length_eq_zero_iff.1 h0
    have hm0 : m = 0 := by rw [← hmm, hzs, wval_nil]
    have FF : Hid (Work b (w1.setCell ⟨g, 2, none⟩ (.int .i64 0)) g v (dlm m) ∧ Sd (w1.setCell ⟨g, 2, none⟩ (.int .i64 0)) g s ∧ Ex (w1.setCell ⟨g, 2, none⟩ (.int .i64 0)) g (dex m x) ∧ Mod (Own1 g v) w1 (w1.setCell ⟨g, 2, none⟩ (.int .i64 0))) := by
      refine ⟨?_, d.set2 _, ?_, hmod⟩
      · rw [hm0, dlm_zero, ← hzs]; exact h.work.set2 _
      · rw [hm0]; exact ex.set 0
    clear h d ex hzs hm0 hmod hn T hmm
    go_wp2_with fail
    exact bodyPost_ret (v := .tuple #[]) (by simp [results, Tryd.results65, go_sem]) rfl ⟨⟨_, rfl⟩, _, unhide FF⟩
  rw [decide_eq_false h0]
  clear hmod
  go_wp2_with fail
  refine (trail_impl _ h.work hn.1 (by omega) T).mono ?_
  rintro e w2 ⟨t, rfl, ht, rfl⟩
  obtain ⟨g1, g2, g3⟩ := shr_wn (⟨hn, fun _ => by omega⟩ : WN s zs) (by omega)
  rw [hmm] at g1 g2 g3
  have hte := tz_eq ht
  have hdx : dex m x = x + (t : Int) := by unfold dex; rw [if_neg g3, ← hmm, wval_abs hn.1, hte]
  have htz : t < 16 * zs.length := by rw [hte]; exact tz_lt (by have := wval_abs (s := s) hn.1; rw [hmm] at this; omega) (by have h1 := val_lt hn.1; have h2 := val_nonneg hn.1; rw [pow_limb] at h1; omega)
  have hdl : limbs ((val zs).toNat / 2 ^ t) = dlm m := by unfold dlm; rw [← hmm, wval_abs hn.1, hte]
  clear ht hte g1 g2 g3 T
  go_wp2_with fail
  refine (shiftDown_wrk _ h hn.1 (by omega) t (by omega)).mono ?_
  rintro e w3 ⟨⟨r3, rfl⟩, u3, n3', -, m3, sd3⟩
  have n3 := n3'.work
  clear n3'
  rw [hdl] at n3
  have ex3 := ex.tail sd3.tail
  have d3 := d.same sd3
  have hc3 := ex3.1
  have hf3 := ex3.2
  have hw : IntKind.i64.wrap (x + (t : Int)) = x + (t : Int) := w64 _ (by omega) (by omega)
  have FF : Hid (Work b (w3.setCell ⟨g, 2, none⟩ (.int .i64 (x + (t : Int)))) g u3 (dlm m) ∧ Sd (w3.setCell ⟨g, 2, none⟩ (.int .i64 (x + (t : Int)))) g s ∧ Ex (w3.setCell ⟨g, 2, none⟩ (.int .i64 (x + (t : Int)))) g (dex m x) ∧ Mod (Own1 g v) w2 (w3.setCell ⟨g, 2, none⟩ (.int .i64 (x + (t : Int))))) := by
    refine ⟨n3.set2 _, d3.set2 _, ?_, Mod.set (S := Own1 g v) m3 (p := ⟨g, 2, none⟩) (.inl (.inl rfl)) _⟩
    rw [hdx]; exact ex3.set _
  clear h d ex n3 m3 sd3 d3 ex3 hdl hdx hc2 hf2 hn hmm
  go_wp2_with fail
  exact bodyPost_end (v := .tuple #[]) (by simp [results, Tryd.results65, go_sem]) rfl ⟨⟨_, rfl⟩, _, unhide FF⟩

set_option maxHeartbeats 4000000 in
theorem toldDyadic_wrk {b g : Nat} {v : Value} {zs : List Int} {s : Bool} {x : Int} (m : Int) (hmm : wval s zs = m) (w : World) (h : Wrk b w g v zs) (d : Sd w g s) (ex : Ex w g x) (hn : Nrm zs) (nx : zs.length ≤ 50000) (hx1 : x ≤ 1000000) (hx0 : -1000000 ≤ x) (T : TabB w) :
    Calls Tryd.prog 39 #[.pointer (some ⟨g, 0, none⟩)] w fun e w' => ∃ v', e = .returned (.tuple #[.agg #[.bool (ansDS true m x), v', .int .i64 (ansDE true m x)], .bool (ansDB true m x)]) ∧ Row .i64 true w.heap.size w'.heap.size w' v' (ansDL true m x) ∧ Mod (Own1 g v) w w' := by
  obtain ⟨GS, hGS⟩ : ∃ y, ansDS true m x = y := ⟨_, rfl⟩
  obtain ⟨GL, hGL⟩ : ∃ y, ansDL true m x = y := ⟨_, rfl⟩
  obtain ⟨GE, hGE⟩ : ∃ y, ansDE true m x = y := ⟨_, rfl⟩
  obtain ⟨GB, hGB⟩ : ∃ y, ansDB true m x = y := ⟨_, rfl⟩
  rw [hGS, hGL, hGE, hGB]
  have HGS := hide hGS
  have HGL := hide hGL
  have HGE := hide hGE
  have HGB := hide hGB
  clear hGS hGL hGE hGB
  have own := fun k (e : v.ownBlock = some k) => h.own.lt e
  have lg := h.lt
  have k0 : Kept 0 0 w (w.alloc (.cells #[.bool false, .slice none 0 0, .int .i64 0] 48)) := ((Kept.refl 0 0 w).alloc (.cells #[.bool false, .slice none 0 0, .int .i64 0] 48))
  have q0 : (w.alloc (.cells #[.bool false, .slice none 0 0, .int .i64 0] 48)).cell? ⟨w.heap.size, 0, none⟩ = some (.bool false) := new_cell2 _ _ _ _ _ _ (by simp) rfl
  have qf0 : (w.alloc (.cells #[.bool false, .slice none 0 0, .int .i64 0] 48)).frozen? ⟨w.heap.size, 0, none⟩ = false := new_loose2 _ _ _ _ _ (by simp)
  have q1 : (w.alloc (.cells #[.bool false, .slice none 0 0, .int .i64 0] 48)).cell? ⟨w.heap.size, 1, none⟩ = some (.slice none 0 0) := new_cell2 _ _ _ _ _ _ (by simp) rfl
  have qf1 : (w.alloc (.cells #[.bool false, .slice none 0 0, .int .i64 0] 48)).frozen? ⟨w.heap.size, 1, none⟩ = false := new_loose2 _ _ _ _ _ (by simp)
  have q2 : (w.alloc (.cells #[.bool false, .slice none 0 0, .int .i64 0] 48)).cell? ⟨w.heap.size, 2, none⟩ = some (.int .i64 0) := new_cell2 _ _ _ _ _ _ (by simp) rfl
  have qf2 : (w.alloc (.cells #[.bool false, .slice none 0 0, .int .i64 0] 48)).frozen? ⟨w.heap.size, 2, none⟩ = false := new_loose2 _ _ _ _ _ (by simp)
  have s0 : (w.alloc (.cells #[.bool false, .slice none 0 0, .int .i64 0] 48)).heap.size = w.heap.size + 1 := by simp
  have K := hide (k0)
  clear k0
  have S0 := hide s0
  clear s0
  have kk := (Kept.refl 0 0 w).alloc (.cells #[.bool false, .slice none 0 0, .int .i64 0] 48)
  replace h := h.kept kk
  replace d := d.kept kk
  replace ex := ex.kept kk
  replace T := T.kept kk
  clear kk
  go_enter Tryd.func39, Tryd.ntmps39
  go_wp2_with fail
  generalize (w.alloc (.cells #[.bool false, .slice none 0 0, .int .i64 0] 48)) = W at *
  refine (makeOdd_wrk m hmm _ h d ex hn nx hx1 hx0 T).mono ?_
  rintro e w1 ⟨⟨r1, rfl⟩, u1, h1, d1, ex1, m1⟩
  have nS : ¬ Own1 g v w.heap.size := fun e => e.elim (fun e => by omega) (fun e => by have := (own _ e).2; omega)
  replace qf0 := m1.loose (a := ⟨w.heap.size, 0, none⟩) nS (World.block_lt_of_cell? _ _ q0) qf0
  replace qf1 := m1.loose (a := ⟨w.heap.size, 1, none⟩) nS (World.block_lt_of_cell? _ _ q1) qf1
  replace qf2 := m1.loose (a := ⟨w.heap.size, 2, none⟩) nS (World.block_lt_of_cell? _ _ q2) qf2
  replace q0 := m1.cell (a := ⟨w.heap.size, 0, none⟩) nS q0
  replace q1 := m1.cell (a := ⟨w.heap.size, 1, none⟩) nS q1
  replace q2 := m1.cell (a := ⟨w.heap.size, 2, none⟩) nS q2
  have K1 : Hid (Mod (Own1 g v) w w1) := Mod.trans (unhide K).toMod m1
  have zz1 := m1.size
  clear h d ex T m1 K
  go_wp2_with fail
  refine (toldSigned_work _ h1 d1).mono ?_
  rintro e w2 ⟨v2, rfl, r2, k2⟩
  replace K1 := hide ((unhide K1).kept k2)
  replace ex1 := ex1.kept k2
  have zz2 := k2.size
  replace qf0 := k2.loose0 (World.block_lt_of_cell? _ _ q0) qf0
  replace qf1 := k2.loose0 (World.block_lt_of_cell? _ _ q1) qf1
  replace qf2 := k2.loose0 (World.block_lt_of_cell? _ _ q2) qf2
  replace q0 := k2.cell0 q0
  replace q1 := k2.cell0 q1
  replace q2 := k2.cell0 q2
  clear k2 h1 d1
  have hsg := told_sign m s _ hn hmm
  have hans := dok_told m x
  have hB0 : ansDB true m x = dokB (wsg m) (dlm m) (dex m x) := rfl
  rw [hans, unhide HGB] at hB0
  clear hans
  rw [hsg]
  clear hsg hn hmm
  have hrx : tell (dlm m) = (if (dlm m).length ≤ 100 then dlm m else []) := rfl
  have hcx := ex1.1
  obtain ⟨X, hX⟩ : ∃ X, dex m x = X := ⟨_, rfl⟩
  rw [hX] at hcx hB0
  have HX := hide hX
  clear hX ex1
  obtain ⟨T2, hT2⟩ : ∃ y, tell (dlm m) = y := ⟨_, rfl⟩
  rw [hT2] at r2
  obtain ⟨SG, hSG⟩ : ∃ y, (decide ((dlm m).length ≤ 100) && wsg m) = y := ⟨_, rfl⟩
  rw [hSG]
  obtain ⟨a2, c2, hv⟩ := Row.form' r2
  subst hv
  have kn := (Kept.refl 0 0 w2).alloc (.cells #[.bool SG, .slice a2 T2.length c2] 46)
  have y0 : (w2.alloc (.cells #[.bool SG, .slice a2 T2.length c2] 46)).cell? ⟨w2.heap.size, 0, none⟩ = some (.bool SG) := new_cell2 _ _ _ _ _ _ rfl rfl
  have y1 : (w2.alloc (.cells #[.bool SG, .slice a2 T2.length c2] 46)).cell? ⟨w2.heap.size, 1, none⟩ = some (.slice a2 T2.length c2) := new_cell2 _ _ _ _ _ _ rfl rfl
  replace K1 := hide ((unhide K1).kept kn)
  replace hcx := kn.cell0 hcx
  replace r2 := r2.kept kn (by omega)
  have zz3 := kn.size
  have zz4 : w2.heap.size < (w2.alloc (.cells #[.bool SG, .slice a2 T2.length c2] 46)).heap.size := by simp
  replace qf0 := kn.loose0 (World.block_lt_of_cell? _ _ q0) qf0
  replace qf1 := kn.loose0 (World.block_lt_of_cell? _ _ q1) qf1
  replace qf2 := kn.loose0 (World.block_lt_of_cell? _ _ q2) qf2
  replace q0 := kn.cell0 q0
  replace q1 := kn.cell0 q1
  replace q2 := kn.cell0 q2
  clear kn
  by_cases hl : (dlm m).length ≤ 100
  rotate_left
  · rw [decide_eq_false hl]
    have hl' := hide hl
    have hno : GB = false := by rw [hB0]; simp [hl]
    have HF : Hid (GS = false ∧ GL = [] ∧ GE = 0 ∧ GB = false) := by
      obtain ⟨b1, b2, b3⟩ := ansD_no (c := true) (m := m) (x := x) (by rw [unhide HGB, hno])
      exact ⟨by rw [← unhide HGS, b1], by rw [← unhide HGL, b2], by rw [← unhide HGE, b3], hno⟩
    have KF := hide (Mod.set (S := Own1 g v) (Mod.set (S := Own1 g v) (Mod.set (S := Own1 g v) (unhide K1) (p := ⟨w.heap.size, 0, none⟩) (.inr (Nat.le_refl _)) (.bool false)) (p := ⟨w.heap.size, 1, none⟩) (.inr (Nat.le_refl _)) (.slice none 0 0)) (p := ⟨w.heap.size, 2, none⟩) (.inr (Nat.le_refl _)) (.int .i64 0))
    clear r2 hB0 hno hT2 hSG hrx K1
    go_wp2_with fail
    exact bodyPost_ret (v := .tuple #[.agg #[.bool false, .slice none 0 0, .int .i64 0], .bool false]) (by simp [results, Tryd.results39, go_sem, q0, q1, q2]) rfl ⟨_, by rw [(unhide HF).1, (unhide HF).2.2.1, (unhide HF).2.2.2], by rw [(unhide HF).2.1]; exact Row.nil _ _ _ _ _, unhide KF⟩
  rw [decide_eq_true hl]
  by_cases hlo : X < -3000
  · have hno : GB = false := by rw [hB0]; simp [show ¬ -3000 ≤ X by omega]
    have HF : Hid (GS = false ∧ GL = [] ∧ GE = 0 ∧ GB = false) := by
      obtain ⟨b1, b2, b3⟩ := ansD_no (c := true) (m := m) (x := x) (by rw [unhide HGB, hno])
      exact ⟨by rw [← unhide HGS, b1], by rw [← unhide HGL, b2], by rw [← unhide HGE, b3], hno⟩
    have KF := hide (Mod.set (S := Own1 g v) (Mod.set (S := Own1 g v) (Mod.set (S := Own1 g v) (unhide K1) (p := ⟨w.heap.size, 0, none⟩) (.inr (Nat.le_refl _)) (.bool false)) (p := ⟨w.heap.size, 1, none⟩) (.inr (Nat.le_refl _)) (.slice none 0 0)) (p := ⟨w.heap.size, 2, none⟩) (.inr (Nat.le_refl _)) (.int .i64 0))
    clear r2 hB0 hno hT2 hSG hrx K1
    go_wp2_with fail
    exact bodyPost_ret (v := .tuple #[.agg #[.bool false, .slice none 0 0, .int .i64 0], .bool false]) (by simp [results, Tryd.results39, go_sem, q0, q1, q2]) rfl ⟨_, by rw [(unhide HF).1, (unhide HF).2.2.1, (unhide HF).2.2.2], by rw [(unhide HF).2.1]; exact Row.nil _ _ _ _ _, unhide KF⟩
  by_cases hhi : 3000 < X
  · have hno : GB = false := by rw [hB0]; simp [show ¬ X ≤ 3000 by omega]
    have HF : Hid (GS = false ∧ GL = [] ∧ GE = 0 ∧ GB = false) := by
      obtain ⟨b1, b2, b3⟩ := ansD_no (c := true) (m := m) (x := x) (by rw [unhide HGB, hno])
      exact ⟨by rw [← unhide HGS, b1], by rw [← unhide HGL, b2], by rw [← unhide HGE, b3], hno⟩
    have KF := hide (Mod.set (S := Own1 g v) (Mod.set (S := Own1 g v) (Mod.set (S := Own1 g v) (unhide K1) (p := ⟨w.heap.size, 0, none⟩) (.inr (Nat.le_refl _)) (.bool false)) (p := ⟨w.heap.size, 1, none⟩) (.inr (Nat.le_refl _)) (.slice none 0 0)) (p := ⟨w.heap.size, 2, none⟩) (.inr (Nat.le_refl _)) (.int .i64 0))
    clear r2 hB0 hno hT2 hSG hrx K1
    go_wp2_with fail
    exact bodyPost_ret (v := .tuple #[.agg #[.bool false, .slice none 0 0, .int .i64 0], .bool false]) (by simp [results, Tryd.results39, go_sem, q0, q1, q2]) rfl ⟨_, by rw [(unhide HF).1, (unhide HF).2.2.1, (unhide HF).2.2.2], by rw [(unhide HF).2.1]; exact Row.nil _ _ _ _ _, unhide KF⟩
  have hyes : GB = true := by rw [hB0, decide_eq_true hl, decide_eq_true (show -3000 ≤ X by omega), decide_eq_true (show X ≤ 3000 by omega)]; rfl
  obtain ⟨b1, b2, b3⟩ := ansD_yes (c := true) (m := m) (x := x) (by rw [unhide HGB, hyes])
  rw [unhide HGS] at b1
  rw [unhide HGL] at b2
  rw [unhide HGE, unhide HX] at b3
  rw [decide_eq_true hl, Bool.true_and, ← b1] at hSG
  rw [hrx, if_pos hl, ← b2] at hT2
  subst hSG
  subst hT2
  have HY := hide hyes
  have HE3 := hide b3
  clear hyes b1 b2 b3 hB0 hrx hl
  go_wp2_with fail
  generalize (w2.alloc (.cells #[.bool GS, .slice a2 GL.length c2] 46)) = W3 at *
  have n_q0 := q0
  have n_qf0 := qf0
  have n_q1 := q1
  have n_qf1 := qf1
  have n_q2 := q2
  have n_qf2 := qf2
  have hcx' := hcx
  refine wp_region_held_drew (S := (fun w' => w'.cell? ⟨w2.heap.size, 0, none⟩ = some (.bool GS) ∧ w'.cell? ⟨w2.heap.size, 1, none⟩ = some (.slice a2 GL.length c2) ∧ w'.cell? ⟨g, 2, none⟩ = some (.int .i64 X))) (by kernel_rfl) ?_ (fun hHeld => ?_)
  · exact ⟨y0, y1, hcx⟩
  refine wpAnyH_take (i := 0) (oi := _) (v := .agg #[.bool GS, .slice a2 GL.length c2]) rfl (by kernel_rfl) (by kernel_rfl) (by kernel_rfl) (fun _ _ _ h => h) (Or.inl ⟨by rfl, ?_⟩) hHeld ?_
  · intro wq hSw
    try dsimp only at hSw
    go_simp
  try simp only [Act.put, List.getElem_toArray, List.getElem_cons_succ, List.getElem_cons_zero, List.setIfInBounds_toArray, List.set_cons_zero, List.set_cons_succ]
  refine wpAnyH_take (i := 1) (oi := _) (v := .pointer (some ⟨g, 0, none⟩)) rfl (by kernel_rfl) (by kernel_rfl) (by kernel_rfl) (fun _ _ _ h => h) (Or.inl ⟨by rfl, ?_⟩) hHeld ?_
  · intro wq hSw
    try dsimp only at hSw
    go_simp
  try simp only [Act.put, List.getElem_toArray, List.getElem_cons_succ, List.getElem_cons_zero, List.setIfInBounds_toArray, List.set_cons_zero, List.set_cons_succ]
  refine wpAnyH_take (i := 2) (oi := _) (v := .pointer (some ⟨g, 0, none⟩)) rfl (by kernel_rfl) (by kernel_rfl) (by kernel_rfl) (fun _ _ _ h => h) (Or.inl ⟨by rfl, ?_⟩) hHeld ?_
  · intro wq hSw
    try dsimp only at hSw
    go_simp
  try simp only [Act.put, List.getElem_toArray, List.getElem_cons_succ, List.getElem_cons_zero, List.setIfInBounds_toArray, List.set_cons_zero, List.set_cons_succ]
  refine wpAnyH_take (i := 3) (oi := _) (v := .pointer (some ⟨g, 2, none⟩)) rfl (by kernel_rfl) (by kernel_rfl) (by kernel_rfl) (fun _ _ _ h => h) (Or.inl ⟨by rfl, ?_⟩) hHeld ?_
  · intro wq hSw
    try dsimp only at hSw
    go_simp
  try simp only [Act.put, List.getElem_toArray, List.getElem_cons_succ, List.getElem_cons_zero, List.setIfInBounds_toArray, List.set_cons_zero, List.set_cons_succ]
  refine wpAnyH_take (i := 4) (oi := _) (v := .int .i64 X) rfl (by kernel_rfl) (by kernel_rfl) (by kernel_rfl) (fun _ _ _ h => h) (Or.inl ⟨by rfl, ?_⟩) hHeld ?_
  · intro wq hSw
    try dsimp only at hSw
    go_simp
  try simp only [Act.put, List.getElem_toArray, List.getElem_cons_succ, List.getElem_cons_zero, List.setIfInBounds_toArray, List.set_cons_zero, List.set_cons_succ]
  refine wpAnyH_take (i := 5) (oi := _) (v := .agg #[.bool GS, .slice a2 GL.length c2, .int .i64 X]) rfl (by kernel_rfl) (by kernel_rfl) (by kernel_rfl) (fun _ _ _ h => h) (Or.inl ⟨by rfl, ?_⟩) hHeld ?_
  · intro wq hSw
    try dsimp only at hSw
    go_simp
  try simp only [Act.put, List.getElem_toArray, List.getElem_cons_succ, List.getElem_cons_zero, List.setIfInBounds_toArray, List.set_cons_zero, List.set_cons_succ]
  refine wpAnyH_ready (rs := [6]) (by kernel_rfl) (by simp) ?_
  refine AllReadyH.cons rfl (fun KK hK => ?_) AllReadyH.nil
  simp only [List.getElem_toArray, List.getElem_cons_succ, List.getElem_cons_zero]
  rw [if_pos (by rfl)]
  go_simp
  clear hHeld
  refine hK.out _ _ ?_ (fun hHeld => ?_)
  · exact ⟨(cell_aside _ (by have := unhide S0; dsimp only; omega) (cell_aside _ (by have := unhide S0; dsimp only; omega) (cell_aside _ (by have := unhide S0; dsimp only; omega) y0))), (cell_aside _ (by have := unhide S0; dsimp only; omega) (cell_aside _ (by have := unhide S0; dsimp only; omega) (cell_aside _ (by have := unhide S0; dsimp only; omega) y1))), (cell_aside _ (by have := unhide S0; dsimp only; omega) (cell_aside _ (by have := unhide S0; dsimp only; omega) (cell_aside _ (by have := unhide S0; dsimp only; omega) hcx)))⟩
  clear hK KK
  try simp only [Act.put, List.getElem_toArray, List.getElem_cons_succ, List.getElem_cons_zero, List.setIfInBounds_toArray, List.set_cons_zero, List.set_cons_succ]
  refine wpAnyH_take (i := 7) (oi := _) (v := .bool true) rfl (by kernel_rfl) (by kernel_rfl) (by kernel_rfl) (fun _ _ _ h => h) (Or.inl ⟨by rfl, ?_⟩) hHeld ?_
  · intro wq hSw
    try dsimp only at hSw
    go_simp
  try simp only [Act.put, List.getElem_toArray, List.getElem_cons_succ, List.getElem_cons_zero, List.setIfInBounds_toArray, List.set_cons_zero, List.set_cons_succ]
  refine wpAnyH_done (by kernel_rfl) ?_ _
  clear hHeld
  have RR := hide ((((r2.set_other (p := ⟨w.heap.size, 0, none⟩) (.inl (by have := unhide S0; dsimp only; omega)) (.bool GS)).set_other (p := ⟨w.heap.size, 1, none⟩) (.inl (by have := unhide S0; dsimp only; omega)) (.slice a2 GL.length c2)).set_other (p := ⟨w.heap.size, 2, none⟩) (.inl (by have := unhide S0; dsimp only; omega)) (.int .i64 X)).tight.wider (lo' := w.heap.size) (by have := unhide S0; omega) (Nat.le_refl _))
  have KF := hide (Mod.set (S := Own1 g v) (Mod.set (S := Own1 g v) (Mod.set (S := Own1 g v) (unhide K1) (p := ⟨w.heap.size, 0, none⟩) (.inr (Nat.le_refl _)) (.bool GS)) (p := ⟨w.heap.size, 1, none⟩) (.inr (Nat.le_refl _)) (.slice a2 GL.length c2)) (p := ⟨w.heap.size, 2, none⟩) (.inr (Nat.le_refl _)) (.int .i64 X))
  clear r2 K1
  go_wp2_with fail
  exact bodyPost_ret (v := .tuple #[.agg #[.bool GS, .slice a2 GL.length c2, .int .i64 X], .bool true]) (by simp [results, Tryd.results39, go_sem, q0, q1, q2, n_q0, n_q1, n_q2]) rfl ⟨_, by rw [unhide HY, unhide HE3], unhide RR, (unhide KF).kept (Kept.refl 0 0 _).drew⟩

end Go.Proofs.YtlenocminckbkaaDoor

namespace Go.Proofs.YtlenocminckbkaaDoor
open Go.RowKit
set_option linter.unusedVariables false
set_option maxRecDepth 8000
set_option linter.unusedSimpArgs false

/-- A size times a power of two, cut off. -/
def scN (V : Nat) (k : Int) : Nat := if 0 ≤ k then V * 2 ^ k.toNat else V / 2 ^ (-k).toNat
/-- Whether something is cut off. -/
def scL (V : Nat) (k : Int) : Bool := if 0 ≤ k then false else decide (V % 2 ^ (-k).toNat ≠ 0)
theorem scN_up (V K : Nat) : scN V (K : Int) = V * 2 ^ K := by unfold scN; rw [if_pos (by omega)]; simp
theorem scL_up (V K : Nat) : scL V (K : Int) = false := by unfold scL; rw [if_pos (by omega)]
theorem scN_down (V K : Nat) (h : 0 < K) : scN V (-(K : Int)) = V / 2 ^ K := by unfold scN; rw [if_neg (by omega)]; simp
theorem scL_down (V K : Nat) (h : 0 < K) : scL V (-(K : Int)) = decide (V % 2 ^ K ≠ 0) := by unfold scL; rw [if_neg (by omega)]; simp
theorem lost_trail {V t : Nat} (h : IsTrail V t) (h0 : V ≠ 0) (K : Nat) : decide (t < K) = decide (V % 2 ^ K ≠ 0) := by
  have ht := tz_eq h
  obtain ⟨m, hm⟩ := tz_form h0
  rw [← ht] at hm
  apply decide_eq_decide.2
  constructor
  · intro hlt e
    have h1 : 2 ^ K ∣ V := Nat.dvd_of_mod_eq_zero e
    have h2 : 2 ^ (t + 1) ∣ V := Nat.dvd_trans (Nat.pow_dvd_pow 2 hlt) h1
    rw [hm, Nat.pow_succ] at h2
    have h3 : 2 ∣ 2 * m + 1 := Nat.dvd_of_mul_dvd_mul_left (Nat.pow_pos (by decide)) h2
    omega
  · intro hne
    rcases Nat.lt_or_ge t K with h | h
    · exact h
    · exfalso
      apply hne
      have h1 : 2 ^ K ∣ V := by rw [hm]; exact Nat.dvd_trans (Nat.pow_dvd_pow 2 h) (Nat.dvd_mul_right _ _)
      exact Nat.mod_eq_zero_of_dvd h1

set_option maxHeartbeats 2000000 in
theorem scale_impl {b g : Nat} {v : Value} {xs : List Int} (w : World) (h : Num b w g v xs) (hn : Nrm xs) (nx : xs.length ≤ 50000) (hb : b ≤ w.heap.size) (k : Int) (k0 : -800000 ≤ k) (k1 : k ≤ 800000) (T : TabB w) :
    Calls Tryd.prog 59 #[.pointer (some ⟨g, 0, none⟩), .int .i64 k] w fun e w' => e = .returned (.bool (scL (val xs).toNat k)) ∧ ∃ u, Wrk b w' g u (limbs (scN (val xs).toNat k)) ∧ Mod (Own1 g v) w w' ∧ SameSide g w w' ∧ ∀ i, u.ownBlock = some i → v.ownBlock = some i ∨ w.heap.size ≤ i := by
  by_cases hk : 0 ≤ k
  · obtain ⟨K, rfl⟩ : ∃ K : Nat, k = K := ⟨k.toNat, by omega⟩
    rw [scN_up, scL_up]
    go_enter Tryd.func59, Tryd.ntmps59
    go_wp2_with fail
    refine (shiftUp_any _ h hn nx K (by omega)).mono ?_
    rintro e w1 ⟨⟨r1, rfl⟩, u, n1, m1, sd1, o1⟩
    have N1 := hide (n1.wrk.less (b' := b) (fun i hi => by have := (n1.own.lt i hi).1; omega))
    have M1 : Hid (Mod (Own1 g v) w w1) := ⟨m1.os, m1.tape, m1.output, m1.size, fun i hi hS => m1.block i hi (fun e => hS (.inl e))⟩
    have S1 := hide sd1
    have O1 := hide o1
    clear n1 m1 sd1 o1 h T
    go_wp2_with fail
    go_ret
    exact ⟨rfl, u, unhide N1, unhide M1, unhide S1, unhide O1⟩
  · obtain ⟨K, hK⟩ : ∃ K : Nat, k = -(K : Int) := ⟨(-k).toNat, by omega⟩
    have hK0 : 0 < K := by omega
    have hng : IntKind.i64.wrap (-k) = (K : Int) := by rw [w64 _ (by omega) (by omega)]; omega
    have hlost : scL (val xs).toNat k = decide ((val xs).toNat % 2 ^ K ≠ 0) := by rw [hK, scL_down _ _ hK0]
    have hN : scN (val xs).toNat k = (val xs).toNat / 2 ^ K := by rw [hK, scN_down _ _ hK0]
    rw [hlost, hN]
    have hK63 : (K : Int) ≤ 9223372036854775807 := by omega
    obtain ⟨LB, hLB⟩ : ∃ LB, decide ((val xs).toNat % 2 ^ K ≠ 0) = LB := ⟨_, rfl⟩
    rw [hLB]
    have hkk : ¬ 0 ≤ k := hk
    have HK := hide hK
    clear hlost hN hK hk
    have hz := isZero_impl w h
    by_cases h0 : xs = []
    · have hd : decide (xs.length = 0) = true := by rw [h0]; rfl
      have hv0 : decide ((val xs).toNat % 2 ^ K ≠ 0) = false := by rw [h0]; simp [val]
      rw [hLB] at hv0
      subst hv0
      rw [hd] at hz
      go_enter Tryd.func59, Tryd.ntmps59
      go_wp2_with fail
      refine hz.mono ?_
      rintro e w1 ⟨rfl, rfl⟩
      clear hz hd hLB
      go_wp2_with fail
      refine (shiftDown_wrk _ h.wrk hn.1 (by omega) K hK63).mono ?_
      rintro e w2 ⟨⟨r1, rfl⟩, u, n1, o1, m1, sd1⟩
      have N1 := hide n1
      have M1 := hide m1
      have S1 := hide sd1
      have O1 := hide o1
      clear n1 m1 sd1 o1 h T
      go_wp2_with fail
      go_ret
      exact ⟨rfl, u, unhide N1, unhide M1, unhide S1, fun i hi => .inl (by rw [← unhide O1]; exact hi)⟩
    · have hd : decide (xs.length = 0) = false := decide_eq_false (fun e => h0 (List.length_eq_zero_iff.1 e))
      have hV : (val xs).toNat ≠ 0 := by
        intro e
        have e1 := val_nonneg hn.1
        exact h0 (nrm_nil hn (by omega))
      rw [hd] at hz
      go_enter Tryd.func59, Tryd.ntmps59
      go_wp2_with fail
      refine hz.mono ?_
      rintro e w1 ⟨rfl, rfl⟩
      clear hz hd
      go_wp2_with fail
      refine (trail_impl _ h.work hn.1 (by omega) T).mono ?_
      rintro e w2 ⟨t, rfl, ht, rfl⟩
      have hl := lost_trail ht hV K
      rw [hLB] at hl
      have HT := hide hl
      clear hl ht hLB
      go_wp2_with fail
      refine (shiftDown_wrk _ h.wrk hn.1 (by omega) K hK63).mono ?_
      rintro e w2 ⟨⟨r1, rfl⟩, u, n1, o1, m1, sd1⟩
      have N1 := hide n1
      have M1 := hide m1
      have S1 := hide sd1
      have O1 := hide o1
      clear n1 m1 sd1 o1 h T
      go_wp2_with fail
      go_ret
      exact ⟨by show Ending.returned (.bool (decide (t < K))) = _; rw [unhide HT], u, unhide N1, unhide M1, unhide S1, fun i hi => .inl (by rw [← unhide O1]; exact hi)⟩

theorem in_scale : ∀ (w : World) (args : Array Value), (callFunc 59 args).run Tryd.prog w = .ok (.enter 59 args) w := enters Tryd.func59 (by decide) (fun h => by cases h)

/-- The fourth cell of a block. -/
def Mo (w : World) (g : Nat) (b : Bool) : Prop := w.cell? ⟨g, 3, none⟩ = some (.bool b) ∧ w.frozen? ⟨g, 3, none⟩ = false
theorem Mo.side {w w' : World} {g : Nat} {x : Bool} (h : Mo w g x) (k : SameSide g w w') : Mo w' g x := ⟨(k 3 (by omega)).1.trans h.1, (k 3 (by omega)).2.trans h.2⟩
theorem Mo.lt {w : World} {g : Nat} {x : Bool} (h : Mo w g x) : g < w.heap.size := World.block_lt_of_cell? _ ⟨g, 3, none⟩ h.1
theorem Mo.kept {w w' : World} {g : Nat} {x : Bool} (h : Mo w g x) (k : Kept 0 0 w w') : Mo w' g x := h.side (k.side h.lt)

set_option maxHeartbeats 2000000 in
theorem cut_own {b g : Nat} {v : Value} {xs : List Int} {s : Bool} {x : Int} (w : World) (h : Num b w g v xs) (d : Sd w g s) (ex : Ex w g x) (hn : Nrm xs) (nx : xs.length ≤ 50000) (hb : b ≤ w.heap.size) (low : Int) (hx0 : -300000 ≤ x) (hx1 : x ≤ 300000) (l0 : -300000 ≤ low) (l1 : low ≤ 300000) (T : TabB w) :
    Calls Tryd.prog 36 #[.pointer (some ⟨g, 0, none⟩), .int .i64 low] w fun e w' => ∃ u, e = .returned (.agg #[u, .bool s, .int .i64 low, .bool (scL (val xs).toNat (x - (low - 1)))]) ∧ OwnA b w' u (limbs (scN (val xs).toNat (x - (low - 1)))) ∧ Mod (fun i => v.ownBlock = some i) w w' ∧ (∀ i, u.ownBlock = some i → v.ownBlock = some i ∨ w.heap.size ≤ i) := by
  obtain ⟨a, c, hv⟩ := h.form
  subst hv
  have hc0 := h.cell
  have hc1 := d.1
  have hc2 := ex.1
  have hlt := h.lt
  have hw1 : IntKind.i64.wrap (low - 1) = low - 1 := w64 _ (by omega) (by omega)
  have hw2 : IntKind.i64.wrap (x - (low - 1)) = x - (low - 1) := w64 _ (by omega) (by omega)
  obtain ⟨W, hW⟩ : ∃ W, W = (w.alloc (.cells #[.slice none 0 0, .bool false, .int .i64 0, .bool false] 78)).alloc (.cells #[.slice a xs.length c, .bool s, .int .i64 low, .bool false] 78) := ⟨_, rfl⟩
  have k0 : Kept 0 0 w W := by rw [hW]; exact ((Kept.refl 0 0 w).alloc _).alloc _
  have sz : W.heap.size = w.heap.size + 2 := by rw [hW]; simp
  have q0 : W.cell? ⟨w.heap.size, 0, none⟩ = some (.slice none 0 0) := by rw [hW]; exact old_cell _ (new_cell2 _ _ _ _ _ _ (by simp) rfl)
  have q1 : W.cell? ⟨w.heap.size, 1, none⟩ = some (.bool false) := by rw [hW]; exact old_cell _ (new_cell2 _ _ _ _ _ _ (by simp) rfl)
  have q2 : W.cell? ⟨w.heap.size, 2, none⟩ = some (.int .i64 0) := by rw [hW]; exact old_cell _ (new_cell2 _ _ _ _ _ _ (by simp) rfl)
  have q3 : W.cell? ⟨w.heap.size, 3, none⟩ = some (.bool false) := by rw [hW]; exact old_cell _ (new_cell2 _ _ _ _ _ _ (by simp) rfl)
  have qf : ∀ o, o < 4 → W.frozen? ⟨w.heap.size, o, none⟩ = false := fun o ho => by rw [hW]; exact loose_old (by simp <;> omega) (new_loose2 _ _ _ _ _ (by simp))
  have y0 : W.cell? ⟨w.heap.size + 1, 0, none⟩ = some (.slice a xs.length c) := by rw [hW]; exact new_cell2 _ _ _ _ _ _ (by simp) rfl
  have y1 : W.cell? ⟨w.heap.size + 1, 1, none⟩ = some (.bool s) := by rw [hW]; exact new_cell2 _ _ _ _ _ _ (by simp) rfl
  have y2 : W.cell? ⟨w.heap.size + 1, 2, none⟩ = some (.int .i64 low) := by rw [hW]; exact new_cell2 _ _ _ _ _ _ (by simp) rfl
  have y3 : W.cell? ⟨w.heap.size + 1, 3, none⟩ = some (.bool false) := by rw [hW]; exact new_cell2 _ _ _ _ _ _ (by simp) rfl
  have yf : ∀ o, o < 4 → W.frozen? ⟨w.heap.size + 1, o, none⟩ = false := fun o ho => by rw [hW]; exact new_loose2 _ _ _ _ _ (by simp)
  have n : Num b W (w.heap.size + 1) (.slice a xs.length c) xs := ⟨y0, yf 0 (by omega), own_kept h.own k0, fun e => by have := (h.own.lt _ e).2; omega⟩
  have hx2 := k0.cell0 hc2
  have OL := hide (fun i hi => (h.own.lt i hi).2)
  have T1 := T.kept k0
  have hsc := scale_impl W n hn nx (by omega) (x - (low - 1)) (by omega) (by omega) T1
  obtain ⟨L, hL⟩ : ∃ L, scL (val xs).toNat (x - (low - 1)) = L := ⟨_, rfl⟩
  obtain ⟨Z, hZ⟩ : ∃ Z, limbs (scN (val xs).toNat (x - (low - 1))) = Z := ⟨_, rfl⟩
  rw [hL, hZ] at hsc
  rw [hL, hZ]
  have HS := hide hsc
  have HW := hide hW
  clear hsc hL hZ T T1 n h d ex y0 hx2
  go_enter Tryd.func36, Tryd.ntmps36
  go_wp2_with fail
  rw [← unhide HW]
  refine (unhide HS).mono ?_
  rintro e w1 ⟨rfl, u, n1, m1, sd1, o1⟩
  obtain ⟨a1, c1, hu⟩ := n1.form
  subst hu
  have nS : ¬ Own1 (w.heap.size + 1) (.slice a xs.length c) w.heap.size := fun e => e.elim (fun e => by omega) (fun e => by have := unhide OL _ e; omega)
  replace q0 := m1.cell (a := ⟨w.heap.size, 0, none⟩) nS q0
  replace q1 := m1.cell (a := ⟨w.heap.size, 1, none⟩) nS q1
  replace q2 := m1.cell (a := ⟨w.heap.size, 2, none⟩) nS q2
  replace q3 := m1.cell (a := ⟨w.heap.size, 3, none⟩) nS q3
  have qf0 := m1.loose (a := ⟨w.heap.size, 0, none⟩) nS (by simp only; omega) (qf 0 (by omega))
  have qf1 := m1.loose (a := ⟨w.heap.size, 1, none⟩) nS (by simp only; omega) (qf 1 (by omega))
  have qf2 := m1.loose (a := ⟨w.heap.size, 2, none⟩) nS (by simp only; omega) (qf 2 (by omega))
  have qf3 := m1.loose (a := ⟨w.heap.size, 3, none⟩) nS (by simp only; omega) (qf 3 (by omega))
  have y0 := n1.cell
  replace y1 := (sd1 1 (by omega)).1.trans y1
  replace y2 := (sd1 2 (by omega)).1.trans y2
  replace y3 := (sd1 3 (by omega)).1.trans y3
  have yf3 := (sd1 3 (by omega)).2.trans (yf 3 (by omega))
  have hne : ¬ w.heap.size = w.heap.size + 1 := by omega
  have hne' : ¬ w.heap.size + 1 = w.heap.size := by omega
  have ao := n1.own
  have ap := n1.apart
  have ap2 : (Value.slice a1 Z.length c1).ownBlock ≠ some w.heap.size := fun e => (o1 _ e).elim (fun e => by have := unhide OL _ e; omega) (fun e => by omega)
  have KM : Hid (OwnA b (((((w1.setCell ⟨w.heap.size + 1, 3, none⟩ (.bool L)).setCell ⟨w.heap.size, 0, none⟩ (.slice a1 Z.length c1)).setCell ⟨w.heap.size, 1, none⟩ (.bool s)).setCell ⟨w.heap.size, 2, none⟩ (.int .i64 low)).setCell ⟨w.heap.size, 3, none⟩ (.bool L)) (.slice a1 Z.length c1) Z ∧
      Mod (fun i => (Value.slice a xs.length c).ownBlock = some i) w (((((w1.setCell ⟨w.heap.size + 1, 3, none⟩ (.bool L)).setCell ⟨w.heap.size, 0, none⟩ (.slice a1 Z.length c1)).setCell ⟨w.heap.size, 1, none⟩ (.bool s)).setCell ⟨w.heap.size, 2, none⟩ (.int .i64 low)).setCell ⟨w.heap.size, 3, none⟩ (.bool L))) := by
    refine ⟨((((ao.aside ap _).aside ap2 _).aside ap2 _).aside ap2 _).aside ap2 _, ?_⟩
    have m0 : Mod (fun i => (Value.slice a xs.length c).ownBlock = some i) w w1 := Mod.then k0.toMod m1 (fun i hi => hi.elim (fun e => .inr (by omega)) (fun e => .inl e))
    exact ((((m0.set (p := ⟨w.heap.size + 1, 3, none⟩) (.inr (by simp only; omega)) _).set (p := ⟨w.heap.size, 0, none⟩) (.inr (Nat.le_refl _)) _).set (p := ⟨w.heap.size, 1, none⟩) (.inr (Nat.le_refl _)) _).set (p := ⟨w.heap.size, 2, none⟩) (.inr (Nat.le_refl _)) _).set (p := ⟨w.heap.size, 3, none⟩) (.inr (Nat.le_refl _)) _
  have O1 : Hid (∀ i, (Value.slice a1 Z.length c1).ownBlock = some i → (Value.slice a xs.length c).ownBlock = some i ∨ w.heap.size ≤ i) := fun i e => (o1 i e).elim .inl (fun e => .inr (by omega))
  clear n1 m1 sd1 o1 ao ap ap2 nS k0 qf yf sz HS HW
  go_wp2_with fail
  exact bodyPost_ret (v := .agg #[.slice a1 Z.length c1, .bool s, .int .i64 low, .bool L]) (by simp [results, Tryd.results36, go_sem, q0, q1, q2, q3]) rfl ⟨_, rfl, (unhide KM).1, (unhide KM).2, unhide O1⟩

theorem cut_impl {b g : Nat} {v : Value} {xs : List Int} {s : Bool} {x : Int} (w : World) (h : Num b w g v xs) (d : Sd w g s) (ex : Ex w g x) (hn : Nrm xs) (nx : xs.length ≤ 50000) (hb : b ≤ w.heap.size) (low : Int) (hx0 : -300000 ≤ x) (hx1 : x ≤ 300000) (l0 : -300000 ≤ low) (l1 : low ≤ 300000) (T : TabB w) :
    Calls Tryd.prog 36 #[.pointer (some ⟨g, 0, none⟩), .int .i64 low] w fun e w' => ∃ u, e = .returned (.agg #[u, .bool s, .int .i64 low, .bool (scL (val xs).toNat (x - (low - 1)))]) ∧ OwnA b w' u (limbs (scN (val xs).toNat (x - (low - 1)))) ∧ Mod (fun i => v.ownBlock = some i) w w' :=
  (cut_own w h d ex hn nx hb low hx0 hx1 l0 l1 T).mono (fun e w' ⟨u, h1, h2, h3, _⟩ => ⟨u, h1, h2, h3⟩)

set_option maxHeartbeats 1000000 in
theorem isExact_impl {b g : Nat} {v : Value} {zs : List Int} {mo : Bool} (w : World) (h : Work b w g v zs) (hl : Lim zs) (m : Mo w g mo) :
    Calls Tryd.prog 37 #[.pointer (some ⟨g, 0, none⟩)] w fun e w' => e = .returned (.bool (decide ((val zs).toNat % 2 = 0) && !mo)) ∧ w' = w := by
  have hb := bit_work w h hl 0 (by omega) (by omega)
  have e0 : bitAt (val zs).toNat 0 = (((val zs).toNat % 2 : Nat) : Int) := by unfold bitAt; simp
  rw [e0] at hb
  have hm := m.1
  obtain ⟨B, hB⟩ : ∃ B : Nat, (val zs).toNat % 2 = B := ⟨_, rfl⟩
  have hB2 : B < 2 := by omega
  rw [hB] at hb
  rw [hB]
  have HB := hide hb
  clear hb h hl m hB e0
  by_cases hB0 : B = 0
  · subst hB0
    go_enter Tryd.func37, Tryd.ntmps37
    go_wp2_with (go_at_call 60; refine (unhide HB).mono ?_; rintro e w' ⟨rfl, rfl⟩)
    go_ret
    exact ⟨by simp, rfl⟩
  · obtain rfl : B = 1 := by omega
    go_enter Tryd.func37, Tryd.ntmps37
    go_wp2_with (go_at_call 60; refine (unhide HB).mono ?_; rintro e w' ⟨rfl, rfl⟩)
    go_ret
    exact ⟨by simp, rfl⟩

theorem in_bit : ∀ (w : World) (args : Array Value), (callFunc 60 args).run Tryd.prog w = .ok (.enter 60 args) w := enters Tryd.func60 (by decide) (fun h => by cases h)

end Go.Proofs.YtlenocminckbkaaDoor

namespace Go.Proofs.YtlenocminckbkaaDoor
open Go.RowKit
set_option linter.unusedVariables false
set_option linter.unusedSimpArgs false

/-- Whether a mode goes up: of a number below 0 (n), beyond an odd multiple (o), by half a multiple at least (h), and by something beside (r). -/
def upsB (mode : Nat) (n o h r : Bool) : Bool :=
  match mode with
  | 0 => h && (r || o)
  | 1 => false
  | 2 => !n
  | 3 => n
  | _ => h

abbrev exv (n o h r : Bool) : Value := .agg #[.bool n, .bool o, .bool h, .bool r]

theorem ups1 (n o h r : Bool) (w : World) :
    Calls Tryd.prog 82 #[exv n o h r] w fun e w' => e = .returned (.bool (upsB 0 n o h r)) ∧ Kept 0 0 w w' := by
  go_enter Tryd.func82, Tryd.ntmps82
  go_wp2
  all_goals (go_ret; refine ⟨?_, by repeat first | exact Kept.refl 0 0 _ | apply Kept.alloc⟩; congr 2; unfold upsB; simp_all)

theorem ups2 (n o h r : Bool) (w : World) :
    Calls Tryd.prog 83 #[exv n o h r] w fun e w' => e = .returned (.bool (upsB 1 n o h r)) ∧ Kept 0 0 w w' := by
  go_enter Tryd.func83, Tryd.ntmps83
  go_wp2
  all_goals (go_ret; exact ⟨rfl, by repeat first | exact Kept.refl 0 0 _ | apply Kept.alloc⟩)

theorem ups3 (n o h r : Bool) (w : World) :
    Calls Tryd.prog 84 #[exv n o h r] w fun e w' => e = .returned (.bool (upsB 2 n o h r)) ∧ Kept 0 0 w w' := by
  go_enter Tryd.func84, Tryd.ntmps84
  go_wp2
  all_goals (go_ret; exact ⟨rfl, by repeat first | exact Kept.refl 0 0 _ | apply Kept.alloc⟩)

theorem ups4 (n o h r : Bool) (w : World) :
    Calls Tryd.prog 85 #[exv n o h r] w fun e w' => e = .returned (.bool (upsB 3 n o h r)) ∧ Kept 0 0 w w' := by
  go_enter Tryd.func85, Tryd.ntmps85
  go_wp2
  all_goals (go_ret; exact ⟨rfl, by repeat first | exact Kept.refl 0 0 _ | apply Kept.alloc⟩)

theorem ups5 (n o h r : Bool) (w : World) :
    Calls Tryd.prog 86 #[exv n o h r] w fun e w' => e = .returned (.bool (upsB 4 n o h r)) ∧ Kept 0 0 w w' := by
  go_enter Tryd.func86, Tryd.ntmps86
  go_wp2
  all_goals (go_ret; exact ⟨rfl, by repeat first | exact Kept.refl 0 0 _ | apply Kept.alloc⟩)

/-- The table of modes. -/
abbrev rndTab : Value := .agg #[.func (.func 82) #[] #[], .func (.func 83) #[] #[], .func (.func 84) #[] #[], .func (.func 85) #[] #[], .func (.func 86) #[] #[]]

set_option maxHeartbeats 1000000 in
theorem roundings_impl (w : World) :
    Calls Tryd.prog 62 #[] w fun e w' => e = .returned rndTab ∧ Kept 0 0 w w' := by
  have k0 : Kept 0 0 w (w.alloc (.cells #[.nilFunc, .nilFunc, .nilFunc, .nilFunc, .nilFunc] 107)) := ((Kept.refl 0 0 w).alloc (.cells #[.nilFunc, .nilFunc, .nilFunc, .nilFunc, .nilFunc] 107))
  have q0 : (w.alloc (.cells #[.nilFunc, .nilFunc, .nilFunc, .nilFunc, .nilFunc] 107)).cell? ⟨w.heap.size, 0, none⟩ = some (.nilFunc) := new_cell2 _ _ _ _ _ _ (by simp) rfl
  have qf0 : (w.alloc (.cells #[.nilFunc, .nilFunc, .nilFunc, .nilFunc, .nilFunc] 107)).frozen? ⟨w.heap.size, 0, none⟩ = false := new_loose2 _ _ _ _ _ (by simp)
  have q1 : (w.alloc (.cells #[.nilFunc, .nilFunc, .nilFunc, .nilFunc, .nilFunc] 107)).cell? ⟨w.heap.size, 1, none⟩ = some (.nilFunc) := new_cell2 _ _ _ _ _ _ (by simp) rfl
  have qf1 : (w.alloc (.cells #[.nilFunc, .nilFunc, .nilFunc, .nilFunc, .nilFunc] 107)).frozen? ⟨w.heap.size, 1, none⟩ = false := new_loose2 _ _ _ _ _ (by simp)
  have q2 : (w.alloc (.cells #[.nilFunc, .nilFunc, .nilFunc, .nilFunc, .nilFunc] 107)).cell? ⟨w.heap.size, 2, none⟩ = some (.nilFunc) := new_cell2 _ _ _ _ _ _ (by simp) rfl
  have qf2 : (w.alloc (.cells #[.nilFunc, .nilFunc, .nilFunc, .nilFunc, .nilFunc] 107)).frozen? ⟨w.heap.size, 2, none⟩ = false := new_loose2 _ _ _ _ _ (by simp)
  have q3 : (w.alloc (.cells #[.nilFunc, .nilFunc, .nilFunc, .nilFunc, .nilFunc] 107)).cell? ⟨w.heap.size, 3, none⟩ = some (.nilFunc) := new_cell2 _ _ _ _ _ _ (by simp) rfl
  have qf3 : (w.alloc (.cells #[.nilFunc, .nilFunc, .nilFunc, .nilFunc, .nilFunc] 107)).frozen? ⟨w.heap.size, 3, none⟩ = false := new_loose2 _ _ _ _ _ (by simp)
  have q4 : (w.alloc (.cells #[.nilFunc, .nilFunc, .nilFunc, .nilFunc, .nilFunc] 107)).cell? ⟨w.heap.size, 4, none⟩ = some (.nilFunc) := new_cell2 _ _ _ _ _ _ (by simp) rfl
  have qf4 : (w.alloc (.cells #[.nilFunc, .nilFunc, .nilFunc, .nilFunc, .nilFunc] 107)).frozen? ⟨w.heap.size, 4, none⟩ = false := new_loose2 _ _ _ _ _ (by simp)
  have s0 : (w.alloc (.cells #[.nilFunc, .nilFunc, .nilFunc, .nilFunc, .nilFunc] 107)).heap.size = w.heap.size + 1 := by simp
  have K := hide (k0)
  clear k0
  have S0 := hide s0
  clear s0
  go_enter Tryd.func62, Tryd.ntmps62
  go_upto_region 1 with fail
  generalize (w.alloc (.cells #[.nilFunc, .nilFunc, .nilFunc, .nilFunc, .nilFunc] 107)) = W at *
  have st := fun (w : World) (a : Addr) (f : Fn) => run_store Tryd.prog w a (.func f #[] #[]) .plain rfl
  have K7 := hide ((((((unhide K).setNew (p := ⟨w.heap.size, 0, none⟩) (by simp) (.func (.func 82) #[] #[])).setNew (p := ⟨w.heap.size, 1, none⟩) (by simp) (.func (.func 83) #[] #[])).setNew (p := ⟨w.heap.size, 2, none⟩) (by simp) (.func (.func 84) #[] #[])).setNew (p := ⟨w.heap.size, 3, none⟩) (by simp) (.func (.func 85) #[] #[])).setNew (p := ⟨w.heap.size, 4, none⟩) (by simp) (.func (.func 86) #[] #[]))
  clear K
  go_wp2_with fail
  exact bodyPost_ret (v := rndTab) (by simp [results, Tryd.results62, go_sem, q0, q1, q2, q3, q4]) rfl ⟨rfl, unhide K7⟩

end Go.Proofs.YtlenocminckbkaaDoor

namespace Go.Proofs.YtlenocminckbkaaDoor
open Go.RowKit
set_option linter.unusedVariables false
set_option maxRecDepth 8000
set_option linter.unusedSimpArgs false

/-- A call, of one argument, of the function that an operand holds. -/
theorem wpv1 {P : Program} {o : Oper} {a : Act} {w : World} {K : Act → World → Prop} {Q : Exit → Act → World → Prop} {R : Ending → World → Prop}
    (n : FuncId) (f x : Operand) (ts : Array TypeId) (hop : o.op = Op.call { callee := Callee.value f, args := #[x], argTypes := ts }) (hf : a.eval f = .func (.func n) #[] #[])
    (hcf : ∀ (w : World) (args : Array Value), (callFunc n args).run P w = .ok (.enter n args) w) (vx : Value) (hx : a.eval x = vx) (hc : Calls P n #[vx] w R) (hK : ∀ e w', R e w' → ∃ v, e = .returned v ∧ K (a.put o.dst v) w') :
    Oper.wp P o a w K Q := by
  unfold Oper.wp
  have hrun : (execOp a.eval o).run P w = .ok (.enter n #[vx]) w := by
    simp [execOp, hop, resolve, invoke, hx, hf, Deferred.ofValue, Result.andThen, hcf]
  rw [hrun, Oper.upon_enter]
  refine hc.mono ?_
  intro e w' h
  obtain ⟨v, rfl, h2⟩ := hK e w' h
  exact h2

/-- A call of no argument. -/
theorem wps0 {P : Program} {o : Oper} {a : Act} {w : World} {K : Act → World → Prop} {Q : Exit → Act → World → Prop} {R : Ending → World → Prop}
    (n : FuncId) (ts : Array TypeId) (hop : o.op = Op.call { callee := Callee.value (Operand.func n), args := #[], argTypes := ts })
    (hcf : ∀ (w : World) (args : Array Value), (callFunc n args).run P w = .ok (.enter n args) w) (hc : Calls P n #[] w R) (hK : ∀ e w', R e w' → ∃ v, e = .returned v ∧ K (a.put o.dst v) w') :
    Oper.wp P o a w K Q := by
  unfold Oper.wp
  have hrun : (execOp a.eval o).run P w = .ok (.enter n #[]) w := by
    have hfn : a.eval (.func n) = .func (.func n) #[] #[] := rfl
    simp [execOp, hop, resolve, invoke, hfn, Deferred.ofValue, Result.andThen, hcf]
  rw [hrun, Oper.upon_enter]
  refine hc.mono ?_
  intro e w' h
  obtain ⟨v, rfl, h2⟩ := hK e w' h
  exact h2

end Go.Proofs.YtlenocminckbkaaDoor

namespace Go.Proofs.YtlenocminckbkaaDoor
open Go.RowKit
set_option linter.unusedVariables false
set_option maxRecDepth 8000
set_option linter.unusedSimpArgs false

/-- What is cut off is nothing. -/
def rndX (H : Nat) (mo : Bool) : Bool := decide (H % 2 = 0) && !mo
/-- Halves, rounded to whole ones by a mode. -/
def rndN (mode : Nat) (s : Bool) (H : Nat) (mo : Bool) : Nat := H / 2 + (if (!rndX H mo && upsB mode s (decide (H / 2 % 2 = 1)) (decide (H % 2 = 1)) mo) = true then 1 else 0)

theorem bit_kept {b g : Nat} {v : Value} {zs : List Int} (w : World) (h : Work b w g v zs) (hl : Lim zs) (i : Int) (hi0 : 0 ≤ i) (hi1 : i ≤ 9223372036854775807) (c : Int) (hc : bitAt (val zs).toNat i = c) :
    Calls Tryd.prog 60 #[.pointer (some ⟨g, 0, none⟩), .int .i64 i] w fun e w' => e = .returned (.int .i64 c) ∧ Kept 0 0 w w' :=
  (bit_work w h hl i hi0 hi1).mono (fun e w' h => ⟨by rw [← hc]; exact h.1, by rw [h.2]; exact Kept.refl 0 0 _⟩)

/-- A block of four bools. -/
def Bx4 (w : World) (X : Nat) (a b c d : Bool) : Prop := w.cell? ⟨X, 0, none⟩ = some (.bool a) ∧ w.cell? ⟨X, 1, none⟩ = some (.bool b) ∧ w.cell? ⟨X, 2, none⟩ = some (.bool c) ∧ w.cell? ⟨X, 3, none⟩ = some (.bool d)
theorem Bx4.set {w : World} {X : Nat} {p q r t : Value} (a b c d : Bool) (h0 : w.cell? ⟨X, 0, none⟩ = some p) (h1 : w.cell? ⟨X, 1, none⟩ = some q) (h2 : w.cell? ⟨X, 2, none⟩ = some r) (h3 : w.cell? ⟨X, 3, none⟩ = some t) :
    Bx4 ((((w.setCell ⟨X, 0, none⟩ (.bool a)).setCell ⟨X, 1, none⟩ (.bool b)).setCell ⟨X, 2, none⟩ (.bool c)).setCell ⟨X, 3, none⟩ (.bool d)) X a b c d :=
  ⟨cell_off _ _ _ _ _ _ (cell_off _ _ _ _ _ _ (cell_off _ _ _ _ _ _ (cell_on _ _ _ _ _ h0) (by decide)) (by decide)) (by decide),
   cell_off _ _ _ _ _ _ (cell_off _ _ _ _ _ _ (cell_on _ _ _ _ _ (cell_off _ _ _ _ _ _ h1 (by decide))) (by decide)) (by decide),
   cell_off _ _ _ _ _ _ (cell_on _ _ _ _ _ (cell_off _ _ _ _ _ _ (cell_off _ _ _ _ _ _ h2 (by decide)) (by decide))) (by decide),
   cell_on _ _ _ _ _ (cell_off _ _ _ _ _ _ (cell_off _ _ _ _ _ _ (cell_off _ _ _ _ _ _ h3 (by decide)) (by decide)) (by decide))⟩
theorem Bx4.mod {S : Nat → Prop} {w w' : World} {X : Nat} {a b c d : Bool} (h : Bx4 w X a b c d) (k : Mod S w w') (hS : ¬ S X) : Bx4 w' X a b c d :=
  ⟨k.cell (a := ⟨X, 0, none⟩) hS h.1, k.cell (a := ⟨X, 1, none⟩) hS h.2.1, k.cell (a := ⟨X, 2, none⟩) hS h.2.2.1, k.cell (a := ⟨X, 3, none⟩) hS h.2.2.2⟩

theorem in_roundings : ∀ (w : World) (args : Array Value), (callFunc 62 args).run Tryd.prog w = .ok (.enter 62 args) w := enters Tryd.func62 (by decide) (fun h => by cases h)

theorem in_ups1 : ∀ (w : World) (args : Array Value), (callFunc 82 args).run Tryd.prog w = .ok (.enter 82 args) w := enters Tryd.func82 (by decide) (fun h => by cases h)

theorem in_ups2 : ∀ (w : World) (args : Array Value), (callFunc 83 args).run Tryd.prog w = .ok (.enter 83 args) w := enters Tryd.func83 (by decide) (fun h => by cases h)

theorem in_ups3 : ∀ (w : World) (args : Array Value), (callFunc 84 args).run Tryd.prog w = .ok (.enter 84 args) w := enters Tryd.func84 (by decide) (fun h => by cases h)

theorem in_ups4 : ∀ (w : World) (args : Array Value), (callFunc 85 args).run Tryd.prog w = .ok (.enter 85 args) w := enters Tryd.func85 (by decide) (fun h => by cases h)

theorem in_ups5 : ∀ (w : World) (args : Array Value), (callFunc 86 args).run Tryd.prog w = .ok (.enter 86 args) w := enters Tryd.func86 (by decide) (fun h => by cases h)

theorem idx_r0 (w : World) : (Instr.index 107 rndTab (.int .i64 0)).run Tryd.prog w = .ok (.agg #[.func (.func 82) #[] #[]]) w := by kernel_rfl

theorem fld_r0 (w : World) : (Instr.field 106 (.agg #[.func (.func 82) #[] #[]]) 0).run Tryd.prog w = .ok (.func (.func 82) #[] #[]) w := by kernel_rfl

theorem idx_r1 (w : World) : (Instr.index 107 rndTab (.int .i64 1)).run Tryd.prog w = .ok (.agg #[.func (.func 83) #[] #[]]) w := by kernel_rfl

theorem fld_r1 (w : World) : (Instr.field 106 (.agg #[.func (.func 83) #[] #[]]) 0).run Tryd.prog w = .ok (.func (.func 83) #[] #[]) w := by kernel_rfl

theorem idx_r2 (w : World) : (Instr.index 107 rndTab (.int .i64 2)).run Tryd.prog w = .ok (.agg #[.func (.func 84) #[] #[]]) w := by kernel_rfl

theorem fld_r2 (w : World) : (Instr.field 106 (.agg #[.func (.func 84) #[] #[]]) 0).run Tryd.prog w = .ok (.func (.func 84) #[] #[]) w := by kernel_rfl

theorem idx_r3 (w : World) : (Instr.index 107 rndTab (.int .i64 3)).run Tryd.prog w = .ok (.agg #[.func (.func 85) #[] #[]]) w := by kernel_rfl

theorem fld_r3 (w : World) : (Instr.field 106 (.agg #[.func (.func 85) #[] #[]]) 0).run Tryd.prog w = .ok (.func (.func 85) #[] #[]) w := by kernel_rfl

theorem idx_r4 (w : World) : (Instr.index 107 rndTab (.int .i64 4)).run Tryd.prog w = .ok (.agg #[.func (.func 86) #[] #[]]) w := by kernel_rfl

theorem fld_r4 (w : World) : (Instr.field 106 (.agg #[.func (.func 86) #[] #[]]) 0).run Tryd.prog w = .ok (.func (.func 86) #[] #[]) w := by kernel_rfl

set_option maxHeartbeats 4000000 in
theorem rounded_own {b g : Nat} {v : Value} {zs : List Int} {s mo : Bool} {low : Int} (w : World) (h : Wrk b w g v zs) (hn : Nrm zs) (nx : zs.length ≤ 90000) (d : Sd w g s) (ex : Ex w g low) (m : Mo w g mo) (hb : b ≤ w.heap.size) (mode : Int) (hm0 : 0 ≤ mode) (hm4 : mode ≤ 4) :
    Calls Tryd.prog 38 #[.pointer (some ⟨g, 0, none⟩), .int .i64 mode] w fun e w' => ∃ u, e = .returned (.agg #[u, .bool s, .int .i64 low]) ∧ OwnA b w' u (limbs (rndN mode.toNat s (val zs).toNat mo)) ∧ Mod (Own1 g v) w w' ∧ (∀ i, u.ownBlock = some i → v.ownBlock = some i ∨ w.heap.size ≤ i) := by
  have hV0 := val_nonneg hn.1
  obtain ⟨V, hV⟩ : ∃ V, (val zs).toNat = V := ⟨_, rfl⟩
  obtain ⟨B1, hB1⟩ : ∃ B1, decide (V / 2 % 2 = 1) = B1 := ⟨_, rfl⟩
  obtain ⟨B0, hB0⟩ : ∃ B0, decide (V % 2 = 1) = B0 := ⟨_, rfl⟩
  obtain ⟨EX, hEX⟩ : ∃ EX, rndX V mo = EX := ⟨_, rfl⟩
  obtain ⟨c1, hc1⟩ : ∃ c, bitAt (val zs).toNat 1 = c := ⟨_, rfl⟩
  obtain ⟨c0, hc0⟩ : ∃ c, bitAt (val zs).toNat 0 = c := ⟨_, rfl⟩
  have hb1 : (c1 == (1 : Int)) = B1 := by rw [← hc1, ← hB1, hV]; unfold bitAt; simp; rw [Bool.eq_iff_iff]; simp; omega
  have hb0 : (c0 == (1 : Int)) = B0 := by rw [← hc0, ← hB0, hV]; unfold bitAt; simp; rw [Bool.eq_iff_iff]; simp; omega
  obtain ⟨UP, hUP⟩ : ∃ UP, (!EX && upsB mode.toNat s B1 B0 mo) = UP := ⟨_, rfl⟩
  have HR : Hid (rndN mode.toNat s V mo = V / 2 + (if UP = true then 1 else 0)) := by show _ = _; unfold rndN; rw [hB1, hB0, hEX, hUP]
  rw [hV]
  have HV := hide hV
  have HUP := hide hUP
  have HC1 := hide hc1
  have HC0 := hide hc0
  have HEX := hide hEX
  clear hV hB1 hB0 hEX hUP hc1 hc0
  have lg := h.lt
  have own := fun k (e : v.ownBlock = some k) => (h.own.lt e).2
  have k0 : Kept 0 0 w (w.alloc (.cells #[.slice none 0 0, .bool false, .int .i64 0] 75)) := ((Kept.refl 0 0 w).alloc (.cells #[.slice none 0 0, .bool false, .int .i64 0] 75))
  have q0 : (w.alloc (.cells #[.slice none 0 0, .bool false, .int .i64 0] 75)).cell? ⟨w.heap.size, 0, none⟩ = some (.slice none 0 0) := new_cell2 _ _ _ _ _ _ (by simp) rfl
  have qf0 : (w.alloc (.cells #[.slice none 0 0, .bool false, .int .i64 0] 75)).frozen? ⟨w.heap.size, 0, none⟩ = false := new_loose2 _ _ _ _ _ (by simp)
  have q1 : (w.alloc (.cells #[.slice none 0 0, .bool false, .int .i64 0] 75)).cell? ⟨w.heap.size, 1, none⟩ = some (.bool false) := new_cell2 _ _ _ _ _ _ (by simp) rfl
  have qf1 : (w.alloc (.cells #[.slice none 0 0, .bool false, .int .i64 0] 75)).frozen? ⟨w.heap.size, 1, none⟩ = false := new_loose2 _ _ _ _ _ (by simp)
  have q2 : (w.alloc (.cells #[.slice none 0 0, .bool false, .int .i64 0] 75)).cell? ⟨w.heap.size, 2, none⟩ = some (.int .i64 0) := new_cell2 _ _ _ _ _ _ (by simp) rfl
  have qf2 : (w.alloc (.cells #[.slice none 0 0, .bool false, .int .i64 0] 75)).frozen? ⟨w.heap.size, 2, none⟩ = false := new_loose2 _ _ _ _ _ (by simp)
  have s0 : (w.alloc (.cells #[.slice none 0 0, .bool false, .int .i64 0] 75)).heap.size = w.heap.size + 1 := by simp
  have K := hide (k0)
  clear k0
  have S0 := hide s0
  clear s0
  have kk := (Kept.refl 0 0 w).alloc (.cells #[.slice none 0 0, .bool false, .int .i64 0] 75)
  replace h := h.kept kk
  replace d := d.kept kk
  replace ex := ex.kept kk
  replace m := m.kept kk
  clear kk
  go_enter Tryd.func38, Tryd.ntmps38
  go_wp2_with fail
  generalize (w.alloc (.cells #[.slice none 0 0, .bool false, .int .i64 0] 75)) = W at *
  have hie := isExact_impl _ h.work hn.1 m
  rw [unhide HV] at hie
  have hie2 : (decide (V % 2 = 0) && !mo) = EX := unhide HEX
  rw [hie2] at hie
  refine hie.mono ?_
  rintro e w1 ⟨rfl, rfl⟩
  clear hie hie2
  go_upto_region 2 with fail
  go_cut [6] (fun p wx => ∃ X, p = .pointer (some ⟨X, 0, none⟩) ∧ w1.heap.size ≤ X ∧ Bx4 wx X s B1 B0 mo ∧ Kept 0 0 w1 wx)
  case first =>
    have kw := Kept.refl 0 0 w1
    have hd1 := d.1
    have hm3 := m.1
    have kd := (Kept.refl 0 0 w1).drew
    replace kw := kw.trans kd
    replace h := h.kept kd
    replace d := d.kept kd
    replace ex := ex.kept kd
    replace m := m.kept kd
    replace qf0 := kd.loose0 (World.block_lt_of_cell? _ _ q0) qf0
    replace qf1 := kd.loose0 (World.block_lt_of_cell? _ _ q1) qf1
    replace qf2 := kd.loose0 (World.block_lt_of_cell? _ _ q2) qf2
    replace q0 := kd.cell0 q0
    replace q1 := kd.cell0 q1
    replace q2 := kd.cell0 q2
    replace hd1 := kd.cell0 hd1
    replace hm3 := kd.cell0 hm3
    replace K := hide ((unhide K).trans kd)
    have z1 := kd.size
    clear kd
    refine wp_region_held_drew (S := (fun w' => w'.cell? ⟨g, 1, none⟩ = some (.bool s) ∧ w'.cell? ⟨g, 3, none⟩ = some (.bool mo))) (by kernel_rfl) ?_ (fun hHeld => ?_)
    · exact ⟨hd1, hm3⟩
    generalize w1.drew = wd2 at *
    refine wpAnyH_take (i := 0) (oi := _) (v := .pointer (some ⟨g, 0, none⟩)) rfl (by kernel_rfl) (by kernel_rfl) (by kernel_rfl) (fun _ _ _ h => h) (Or.inl ⟨by rfl, ?_⟩) hHeld ?_
    · intro wq hSw
      try dsimp only at hSw
      go_simp
    try simp only [Act.put, List.getElem_toArray, List.getElem_cons_succ, List.getElem_cons_zero, List.setIfInBounds_toArray, List.set_cons_zero, List.set_cons_succ]
    refine wpAnyH_take (i := 1) (oi := _) (v := .pointer (some ⟨g, 0, none⟩)) rfl (by kernel_rfl) (by kernel_rfl) (by kernel_rfl) (fun _ _ _ h => h) (Or.inl ⟨by rfl, ?_⟩) hHeld ?_
    · intro wq hSw
      try dsimp only at hSw
      go_simp
    try simp only [Act.put, List.getElem_toArray, List.getElem_cons_succ, List.getElem_cons_zero, List.setIfInBounds_toArray, List.set_cons_zero, List.set_cons_succ]
    refine wpAnyH_take (i := 2) (oi := _) (v := .pointer (some ⟨g, 0, none⟩)) rfl (by kernel_rfl) (by kernel_rfl) (by kernel_rfl) (fun _ _ _ h => h) (Or.inl ⟨by rfl, ?_⟩) hHeld ?_
    · intro wq hSw
      try dsimp only at hSw
      go_simp
    try simp only [Act.put, List.getElem_toArray, List.getElem_cons_succ, List.getElem_cons_zero, List.setIfInBounds_toArray, List.set_cons_zero, List.set_cons_succ]
    refine wpAnyH_take (i := 3) (oi := _) (v := .pointer (some ⟨g, 1, none⟩)) rfl (by kernel_rfl) (by kernel_rfl) (by kernel_rfl) (fun _ _ _ h => h) (Or.inl ⟨by rfl, ?_⟩) hHeld ?_
    · intro wq hSw
      try dsimp only at hSw
      go_simp
    try simp only [Act.put, List.getElem_toArray, List.getElem_cons_succ, List.getElem_cons_zero, List.setIfInBounds_toArray, List.set_cons_zero, List.set_cons_succ]
    refine wpAnyH_take (i := 4) (oi := _) (v := .bool s) rfl (by kernel_rfl) (by kernel_rfl) (by kernel_rfl) (fun _ _ _ h => h) (Or.inl ⟨by rfl, ?_⟩) hHeld ?_
    · intro wq hSw
      try dsimp only at hSw
      go_simp
    try simp only [Act.put, List.getElem_toArray, List.getElem_cons_succ, List.getElem_cons_zero, List.setIfInBounds_toArray, List.set_cons_zero, List.set_cons_succ]
    refine wpAnyH_take (i := 5) (oi := _) (v := .pointer (some ⟨g, 0, none⟩)) rfl (by kernel_rfl) (by kernel_rfl) (by kernel_rfl) (fun _ _ _ h => h) (Or.inl ⟨by rfl, ?_⟩) hHeld ?_
    · intro wq hSw
      try dsimp only at hSw
      go_simp
    try simp only [Act.put, List.getElem_toArray, List.getElem_cons_succ, List.getElem_cons_zero, List.setIfInBounds_toArray, List.set_cons_zero, List.set_cons_succ]
    refine wpAnyH_take (i := 6) (oi := _) (v := .pointer (some ⟨g, 0, none⟩)) rfl (by kernel_rfl) (by kernel_rfl) (by kernel_rfl) (fun _ _ _ h => h) (Or.inl ⟨by rfl, ?_⟩) hHeld ?_
    · intro wq hSw
      try dsimp only at hSw
      go_simp
    try simp only [Act.put, List.getElem_toArray, List.getElem_cons_succ, List.getElem_cons_zero, List.setIfInBounds_toArray, List.set_cons_zero, List.set_cons_succ]
    refine wpAnyH_take (i := 7) (oi := _) (v := .pointer (some ⟨g, 0, none⟩)) rfl (by kernel_rfl) (by kernel_rfl) (by kernel_rfl) (fun _ _ _ h => h) (Or.inl ⟨by rfl, ?_⟩) hHeld ?_
    · intro wq hSw
      try dsimp only at hSw
      go_simp
    try simp only [Act.put, List.getElem_toArray, List.getElem_cons_succ, List.getElem_cons_zero, List.setIfInBounds_toArray, List.set_cons_zero, List.set_cons_succ]
    refine wpAnyH_take (i := 8) (oi := _) (v := .pointer (some ⟨g, 0, none⟩)) rfl (by kernel_rfl) (by kernel_rfl) (by kernel_rfl) (fun _ _ _ h => h) (Or.inl ⟨by rfl, ?_⟩) hHeld ?_
    · intro wq hSw
      try dsimp only at hSw
      go_simp
    try simp only [Act.put, List.getElem_toArray, List.getElem_cons_succ, List.getElem_cons_zero, List.setIfInBounds_toArray, List.set_cons_zero, List.set_cons_succ]
    refine wpAnyH_take (i := 11) (oi := _) (v := .pointer (some ⟨g, 0, none⟩)) rfl (by kernel_rfl) (by kernel_rfl) (by kernel_rfl) (fun _ _ _ h => h) (Or.inl ⟨by rfl, ?_⟩) hHeld ?_
    · intro wq hSw
      try dsimp only at hSw
      go_simp
    try simp only [Act.put, List.getElem_toArray, List.getElem_cons_succ, List.getElem_cons_zero, List.setIfInBounds_toArray, List.set_cons_zero, List.set_cons_succ]
    refine wpAnyH_take (i := 12) (oi := _) (v := .pointer (some ⟨g, 0, none⟩)) rfl (by kernel_rfl) (by kernel_rfl) (by kernel_rfl) (fun _ _ _ h => h) (Or.inl ⟨by rfl, ?_⟩) hHeld ?_
    · intro wq hSw
      try dsimp only at hSw
      go_simp
    try simp only [Act.put, List.getElem_toArray, List.getElem_cons_succ, List.getElem_cons_zero, List.setIfInBounds_toArray, List.set_cons_zero, List.set_cons_succ]
    refine wpAnyH_take (i := 13) (oi := _) (v := .pointer (some ⟨g, 0, none⟩)) rfl (by kernel_rfl) (by kernel_rfl) (by kernel_rfl) (fun _ _ _ h => h) (Or.inl ⟨by rfl, ?_⟩) hHeld ?_
    · intro wq hSw
      try dsimp only at hSw
      go_simp
    try simp only [Act.put, List.getElem_toArray, List.getElem_cons_succ, List.getElem_cons_zero, List.setIfInBounds_toArray, List.set_cons_zero, List.set_cons_succ]
    refine wpAnyH_take (i := 14) (oi := _) (v := .pointer (some ⟨g, 0, none⟩)) rfl (by kernel_rfl) (by kernel_rfl) (by kernel_rfl) (fun _ _ _ h => h) (Or.inl ⟨by rfl, ?_⟩) hHeld ?_
    · intro wq hSw
      try dsimp only at hSw
      go_simp
    try simp only [Act.put, List.getElem_toArray, List.getElem_cons_succ, List.getElem_cons_zero, List.setIfInBounds_toArray, List.set_cons_zero, List.set_cons_succ]
    refine wpAnyH_take (i := 17) (oi := _) (v := .pointer (some ⟨g, 0, none⟩)) rfl (by kernel_rfl) (by kernel_rfl) (by kernel_rfl) (fun _ _ _ h => h) (Or.inl ⟨by rfl, ?_⟩) hHeld ?_
    · intro wq hSw
      try dsimp only at hSw
      go_simp
    try simp only [Act.put, List.getElem_toArray, List.getElem_cons_succ, List.getElem_cons_zero, List.setIfInBounds_toArray, List.set_cons_zero, List.set_cons_succ]
    refine wpAnyH_take (i := 18) (oi := _) (v := .pointer (some ⟨g, 0, none⟩)) rfl (by kernel_rfl) (by kernel_rfl) (by kernel_rfl) (fun _ _ _ h => h) (Or.inl ⟨by rfl, ?_⟩) hHeld ?_
    · intro wq hSw
      try dsimp only at hSw
      go_simp
    try simp only [Act.put, List.getElem_toArray, List.getElem_cons_succ, List.getElem_cons_zero, List.setIfInBounds_toArray, List.set_cons_zero, List.set_cons_succ]
    refine wpAnyH_take (i := 19) (oi := _) (v := .pointer (some ⟨g, 3, none⟩)) rfl (by kernel_rfl) (by kernel_rfl) (by kernel_rfl) (fun _ _ _ h => h) (Or.inl ⟨by rfl, ?_⟩) hHeld ?_
    · intro wq hSw
      try dsimp only at hSw
      go_simp
    try simp only [Act.put, List.getElem_toArray, List.getElem_cons_succ, List.getElem_cons_zero, List.setIfInBounds_toArray, List.set_cons_zero, List.set_cons_succ]
    refine wpAnyH_take (i := 20) (oi := _) (v := .bool mo) rfl (by kernel_rfl) (by kernel_rfl) (by kernel_rfl) (fun _ _ _ h => h) (Or.inl ⟨by rfl, ?_⟩) hHeld ?_
    · intro wq hSw
      try dsimp only at hSw
      go_simp
    try simp only [Act.put, List.getElem_toArray, List.getElem_cons_succ, List.getElem_cons_zero, List.setIfInBounds_toArray, List.set_cons_zero, List.set_cons_succ]
    refine wpAnyH_ready (rs := [9, 22]) (by kernel_rfl) (by simp) ?_
    refine AllReadyH.cons rfl (fun KK hK => ?_) (AllReadyH.cons rfl (fun KK hK => ?_) AllReadyH.nil)
    · simp only [List.getElem_toArray, List.getElem_cons_succ, List.getElem_cons_zero]
      rw [if_pos (by rfl)]
      refine wps2 60 (.tmp 18) (.const (.int .i64 1)) _ rfl in_bit (.pointer (some ⟨g, 0, none⟩)) (.int .i64 1) rfl rfl (bit_kept _ h.work hn.1 1 (by omega) (by omega) c1 (unhide HC1)) ?_
      rintro e w3 ⟨rfl, k3⟩
      refine ⟨_, rfl, ?_⟩
      replace kw := kw.trans k3
      replace h := h.kept k3
      replace d := d.kept k3
      replace ex := ex.kept k3
      replace m := m.kept k3
      replace qf0 := k3.loose0 (World.block_lt_of_cell? _ _ q0) qf0
      replace qf1 := k3.loose0 (World.block_lt_of_cell? _ _ q1) qf1
      replace qf2 := k3.loose0 (World.block_lt_of_cell? _ _ q2) qf2
      replace q0 := k3.cell0 q0
      replace q1 := k3.cell0 q1
      replace q2 := k3.cell0 q2
      replace hd1 := k3.cell0 hd1
      replace hm3 := k3.cell0 hm3
      replace K := hide ((unhide K).trans k3)
      have z4 := k3.size
      clear k3
      clear hHeld
      refine hK.out _ _ ?_ (fun hHeld => ?_)
      · exact ⟨hd1, hm3⟩
      clear hK KK
      try simp only [Act.put, List.getElem_toArray, List.getElem_cons_succ, List.getElem_cons_zero, List.setIfInBounds_toArray, List.set_cons_zero, List.set_cons_succ]
      refine wpAnyH_take (i := 10) (oi := _) (v := .bool B1) rfl (by kernel_rfl) (by kernel_rfl) (by kernel_rfl) (fun _ _ _ h => h) (Or.inl ⟨by rfl, ?_⟩) hHeld ?_
      · intro wq hSw
        try dsimp only at hSw
        go_simp
      try simp only [Act.put, List.getElem_toArray, List.getElem_cons_succ, List.getElem_cons_zero, List.setIfInBounds_toArray, List.set_cons_zero, List.set_cons_succ]
      refine wpAnyH_ready (rs := [15, 22]) (by kernel_rfl) (by simp) ?_
      refine AllReadyH.cons rfl (fun KK hK => ?_) (AllReadyH.cons rfl (fun KK hK => ?_) AllReadyH.nil)
      · simp only [List.getElem_toArray, List.getElem_cons_succ, List.getElem_cons_zero]
        rw [if_pos (by rfl)]
        refine wps2 60 (.tmp 24) (.const (.int .i64 0)) _ rfl in_bit (.pointer (some ⟨g, 0, none⟩)) (.int .i64 0) rfl rfl (bit_kept _ h.work hn.1 0 (by omega) (by omega) c0 (unhide HC0)) ?_
        rintro e w5 ⟨rfl, k5⟩
        refine ⟨_, rfl, ?_⟩
        replace kw := kw.trans k5
        replace h := h.kept k5
        replace d := d.kept k5
        replace ex := ex.kept k5
        replace m := m.kept k5
        replace qf0 := k5.loose0 (World.block_lt_of_cell? _ _ q0) qf0
        replace qf1 := k5.loose0 (World.block_lt_of_cell? _ _ q1) qf1
        replace qf2 := k5.loose0 (World.block_lt_of_cell? _ _ q2) qf2
        replace q0 := k5.cell0 q0
        replace q1 := k5.cell0 q1
        replace q2 := k5.cell0 q2
        replace hd1 := k5.cell0 hd1
        replace hm3 := k5.cell0 hm3
        replace K := hide ((unhide K).trans k5)
        have z6 := k5.size
        clear k5
        clear hHeld
        refine hK.out _ _ ?_ (fun hHeld => ?_)
        · exact ⟨hd1, hm3⟩
        clear hK KK
        try simp only [Act.put, List.getElem_toArray, List.getElem_cons_succ, List.getElem_cons_zero, List.setIfInBounds_toArray, List.set_cons_zero, List.set_cons_succ]
        refine wpAnyH_take (i := 16) (oi := _) (v := .bool B0) rfl (by kernel_rfl) (by kernel_rfl) (by kernel_rfl) (fun _ _ _ h => h) (Or.inl ⟨by rfl, ?_⟩) hHeld ?_
        · intro wq hSw
          try dsimp only at hSw
          go_simp
        try simp only [Act.put, List.getElem_toArray, List.getElem_cons_succ, List.getElem_cons_zero, List.setIfInBounds_toArray, List.set_cons_zero, List.set_cons_succ]
        refine wpAnyH_take (i := 21) (oi := _) (v := .agg #[.bool s, .bool B1, .bool B0, .bool mo]) rfl (by kernel_rfl) (by kernel_rfl) (by kernel_rfl) (fun _ _ _ h => h) (Or.inl ⟨by rfl, ?_⟩) hHeld ?_
        · intro wq hSw
          try dsimp only at hSw
          go_simp
        try simp only [Act.put, List.getElem_toArray, List.getElem_cons_succ, List.getElem_cons_zero, List.setIfInBounds_toArray, List.set_cons_zero, List.set_cons_succ]
        refine wpAnyH_ready (rs := [22]) (by kernel_rfl) (by simp) ?_
        refine AllReadyH.cons rfl (fun KK hK => ?_) AllReadyH.nil
        simp only [List.getElem_toArray, List.getElem_cons_succ, List.getElem_cons_zero]
        rw [if_pos (by rfl)]
        go_simp
        have kn := (Kept.refl 0 0 w5).alloc (.cells #[.bool false, .bool false, .bool false, .bool false] 102)
        replace kw := kw.trans kn
        replace h := h.kept kn
        replace d := d.kept kn
        replace ex := ex.kept kn
        replace m := m.kept kn
        replace qf0 := kn.loose0 (World.block_lt_of_cell? _ _ q0) qf0
        replace qf1 := kn.loose0 (World.block_lt_of_cell? _ _ q1) qf1
        replace qf2 := kn.loose0 (World.block_lt_of_cell? _ _ q2) qf2
        replace q0 := kn.cell0 q0
        replace q1 := kn.cell0 q1
        replace q2 := kn.cell0 q2
        replace hd1 := kn.cell0 hd1
        replace hm3 := kn.cell0 hm3
        replace K := hide ((unhide K).trans kn)
        have z8 := kn.size
        clear kn
        have szy : w5.heap.size < (w5.alloc (.cells #[.bool false, .bool false, .bool false, .bool false] 102)).heap.size := by simp
        have y0 : (w5.alloc (.cells #[.bool false, .bool false, .bool false, .bool false] 102)).cell? ⟨w5.heap.size, 0, none⟩ = some (.bool false) := new_cell2 _ _ _ _ _ _ rfl rfl
        have yf0 : (w5.alloc (.cells #[.bool false, .bool false, .bool false, .bool false] 102)).frozen? ⟨w5.heap.size, 0, none⟩ = false := new_loose2 _ _ _ _ _ rfl
        have y1 : (w5.alloc (.cells #[.bool false, .bool false, .bool false, .bool false] 102)).cell? ⟨w5.heap.size, 1, none⟩ = some (.bool false) := new_cell2 _ _ _ _ _ _ rfl rfl
        have yf1 : (w5.alloc (.cells #[.bool false, .bool false, .bool false, .bool false] 102)).frozen? ⟨w5.heap.size, 1, none⟩ = false := new_loose2 _ _ _ _ _ rfl
        have y2 : (w5.alloc (.cells #[.bool false, .bool false, .bool false, .bool false] 102)).cell? ⟨w5.heap.size, 2, none⟩ = some (.bool false) := new_cell2 _ _ _ _ _ _ rfl rfl
        have yf2 : (w5.alloc (.cells #[.bool false, .bool false, .bool false, .bool false] 102)).frozen? ⟨w5.heap.size, 2, none⟩ = false := new_loose2 _ _ _ _ _ rfl
        have y3 : (w5.alloc (.cells #[.bool false, .bool false, .bool false, .bool false] 102)).cell? ⟨w5.heap.size, 3, none⟩ = some (.bool false) := new_cell2 _ _ _ _ _ _ rfl rfl
        have yf3 : (w5.alloc (.cells #[.bool false, .bool false, .bool false, .bool false] 102)).frozen? ⟨w5.heap.size, 3, none⟩ = false := new_loose2 _ _ _ _ _ rfl
        clear hHeld
        refine hK.out _ _ ?_ (fun hHeld => ?_)
        · exact ⟨hd1, hm3⟩
        clear hK KK
        try simp only [Act.put, List.getElem_toArray, List.getElem_cons_succ, List.getElem_cons_zero, List.setIfInBounds_toArray, List.set_cons_zero, List.set_cons_succ]
        generalize w5.alloc (.cells #[.bool false, .bool false, .bool false, .bool false] 102) = w7 at *
        refine wpAnyH_ready (rs := [23]) (by kernel_rfl) (by simp) ?_
        refine AllReadyH.cons rfl (fun KK hK => ?_) AllReadyH.nil
        simp only [List.getElem_toArray, List.getElem_cons_succ, List.getElem_cons_zero]
        rw [if_pos (by rfl)]
        go_simp
        clear hHeld
        refine hK.out _ _ ?_ (fun hHeld => ?_)
        · exact ⟨(cell_aside _ (by have := unhide S0; dsimp only; omega) (cell_aside _ (by have := unhide S0; dsimp only; omega) (cell_aside _ (by have := unhide S0; dsimp only; omega) (cell_aside _ (by have := unhide S0; dsimp only; omega) hd1)))), (cell_aside _ (by have := unhide S0; dsimp only; omega) (cell_aside _ (by have := unhide S0; dsimp only; omega) (cell_aside _ (by have := unhide S0; dsimp only; omega) (cell_aside _ (by have := unhide S0; dsimp only; omega) hm3))))⟩
        clear hK KK
        try simp only [Act.put, List.getElem_toArray, List.getElem_cons_succ, List.getElem_cons_zero, List.setIfInBounds_toArray, List.set_cons_zero, List.set_cons_succ]
        refine wpAnyH_done (by kernel_rfl) ?_ _
        clear hHeld
        go_wp2_with fail
        go_meet
        exact ⟨_, rfl, by omega, Bx4.set s B1 B0 mo y0 y1 y2 y3, ((((kw.setNew (p := ⟨w5.heap.size, 0, none⟩) (by have := unhide S0; dsimp only; omega) (.bool s)).setNew (p := ⟨w5.heap.size, 1, none⟩) (by have := unhide S0; dsimp only; omega) (.bool B1)).setNew (p := ⟨w5.heap.size, 2, none⟩) (by have := unhide S0; dsimp only; omega) (.bool B0)).setNew (p := ⟨w5.heap.size, 3, none⟩) (by have := unhide S0; dsimp only; omega) (.bool mo))⟩
      · simp only [List.getElem_toArray, List.getElem_cons_succ, List.getElem_cons_zero]
        rw [if_pos (by rfl)]
        go_simp
        have kn := (Kept.refl 0 0 w3).alloc (.cells #[.bool false, .bool false, .bool false, .bool false] 102)
        replace kw := kw.trans kn
        replace h := h.kept kn
        replace d := d.kept kn
        replace ex := ex.kept kn
        replace m := m.kept kn
        replace qf0 := kn.loose0 (World.block_lt_of_cell? _ _ q0) qf0
        replace qf1 := kn.loose0 (World.block_lt_of_cell? _ _ q1) qf1
        replace qf2 := kn.loose0 (World.block_lt_of_cell? _ _ q2) qf2
        replace q0 := kn.cell0 q0
        replace q1 := kn.cell0 q1
        replace q2 := kn.cell0 q2
        replace hd1 := kn.cell0 hd1
        replace hm3 := kn.cell0 hm3
        replace K := hide ((unhide K).trans kn)
        have z6 := kn.size
        clear kn
        have szy : w3.heap.size < (w3.alloc (.cells #[.bool false, .bool false, .bool false, .bool false] 102)).heap.size := by simp
        have y0 : (w3.alloc (.cells #[.bool false, .bool false, .bool false, .bool false] 102)).cell? ⟨w3.heap.size, 0, none⟩ = some (.bool false) := new_cell2 _ _ _ _ _ _ rfl rfl
        have yf0 : (w3.alloc (.cells #[.bool false, .bool false, .bool false, .bool false] 102)).frozen? ⟨w3.heap.size, 0, none⟩ = false := new_loose2 _ _ _ _ _ rfl
        have y1 : (w3.alloc (.cells #[.bool false, .bool false, .bool false, .bool false] 102)).cell? ⟨w3.heap.size, 1, none⟩ = some (.bool false) := new_cell2 _ _ _ _ _ _ rfl rfl
        have yf1 : (w3.alloc (.cells #[.bool false, .bool false, .bool false, .bool false] 102)).frozen? ⟨w3.heap.size, 1, none⟩ = false := new_loose2 _ _ _ _ _ rfl
        have y2 : (w3.alloc (.cells #[.bool false, .bool false, .bool false, .bool false] 102)).cell? ⟨w3.heap.size, 2, none⟩ = some (.bool false) := new_cell2 _ _ _ _ _ _ rfl rfl
        have yf2 : (w3.alloc (.cells #[.bool false, .bool false, .bool false, .bool false] 102)).frozen? ⟨w3.heap.size, 2, none⟩ = false := new_loose2 _ _ _ _ _ rfl
        have y3 : (w3.alloc (.cells #[.bool false, .bool false, .bool false, .bool false] 102)).cell? ⟨w3.heap.size, 3, none⟩ = some (.bool false) := new_cell2 _ _ _ _ _ _ rfl rfl
        have yf3 : (w3.alloc (.cells #[.bool false, .bool false, .bool false, .bool false] 102)).frozen? ⟨w3.heap.size, 3, none⟩ = false := new_loose2 _ _ _ _ _ rfl
        clear hHeld
        refine hK.out _ _ ?_ (fun hHeld => ?_)
        · exact ⟨hd1, hm3⟩
        clear hK KK
        try simp only [Act.put, List.getElem_toArray, List.getElem_cons_succ, List.getElem_cons_zero, List.setIfInBounds_toArray, List.set_cons_zero, List.set_cons_succ]
        generalize w3.alloc (.cells #[.bool false, .bool false, .bool false, .bool false] 102) = w5 at *
        refine wpAnyH_ready (rs := [15]) (by kernel_rfl) (by simp) ?_
        refine AllReadyH.cons rfl (fun KK hK => ?_) AllReadyH.nil
        simp only [List.getElem_toArray, List.getElem_cons_succ, List.getElem_cons_zero]
        rw [if_pos (by rfl)]
        refine wps2 60 (.tmp 24) (.const (.int .i64 0)) _ rfl in_bit (.pointer (some ⟨g, 0, none⟩)) (.int .i64 0) rfl rfl (bit_kept _ h.work hn.1 0 (by omega) (by omega) c0 (unhide HC0)) ?_
        rintro e w7 ⟨rfl, k7⟩
        refine ⟨_, rfl, ?_⟩
        replace kw := kw.trans k7
        replace h := h.kept k7
        replace d := d.kept k7
        replace ex := ex.kept k7
        replace m := m.kept k7
        replace qf0 := k7.loose0 (World.block_lt_of_cell? _ _ q0) qf0
        replace qf1 := k7.loose0 (World.block_lt_of_cell? _ _ q1) qf1
        replace qf2 := k7.loose0 (World.block_lt_of_cell? _ _ q2) qf2
        replace yf0 := k7.loose0 (World.block_lt_of_cell? _ _ y0) yf0
        replace yf1 := k7.loose0 (World.block_lt_of_cell? _ _ y1) yf1
        replace yf2 := k7.loose0 (World.block_lt_of_cell? _ _ y2) yf2
        replace yf3 := k7.loose0 (World.block_lt_of_cell? _ _ y3) yf3
        replace q0 := k7.cell0 q0
        replace q1 := k7.cell0 q1
        replace q2 := k7.cell0 q2
        replace hd1 := k7.cell0 hd1
        replace hm3 := k7.cell0 hm3
        replace y0 := k7.cell0 y0
        replace y1 := k7.cell0 y1
        replace y2 := k7.cell0 y2
        replace y3 := k7.cell0 y3
        replace K := hide ((unhide K).trans k7)
        have z8 := k7.size
        clear k7
        clear hHeld
        refine hK.out _ _ ?_ (fun hHeld => ?_)
        · exact ⟨hd1, hm3⟩
        clear hK KK
        try simp only [Act.put, List.getElem_toArray, List.getElem_cons_succ, List.getElem_cons_zero, List.setIfInBounds_toArray, List.set_cons_zero, List.set_cons_succ]
        refine wpAnyH_take (i := 16) (oi := _) (v := .bool B0) rfl (by kernel_rfl) (by kernel_rfl) (by kernel_rfl) (fun _ _ _ h => h) (Or.inl ⟨by rfl, ?_⟩) hHeld ?_
        · intro wq hSw
          try dsimp only at hSw
          go_simp
        try simp only [Act.put, List.getElem_toArray, List.getElem_cons_succ, List.getElem_cons_zero, List.setIfInBounds_toArray, List.set_cons_zero, List.set_cons_succ]
        refine wpAnyH_take (i := 21) (oi := _) (v := .agg #[.bool s, .bool B1, .bool B0, .bool mo]) rfl (by kernel_rfl) (by kernel_rfl) (by kernel_rfl) (fun _ _ _ h => h) (Or.inl ⟨by rfl, ?_⟩) hHeld ?_
        · intro wq hSw
          try dsimp only at hSw
          go_simp
        try simp only [Act.put, List.getElem_toArray, List.getElem_cons_succ, List.getElem_cons_zero, List.setIfInBounds_toArray, List.set_cons_zero, List.set_cons_succ]
        refine wpAnyH_ready (rs := [23]) (by kernel_rfl) (by simp) ?_
        refine AllReadyH.cons rfl (fun KK hK => ?_) AllReadyH.nil
        simp only [List.getElem_toArray, List.getElem_cons_succ, List.getElem_cons_zero]
        rw [if_pos (by rfl)]
        go_simp
        clear hHeld
        refine hK.out _ _ ?_ (fun hHeld => ?_)
        · exact ⟨(cell_aside _ (by have := unhide S0; dsimp only; omega) (cell_aside _ (by have := unhide S0; dsimp only; omega) (cell_aside _ (by have := unhide S0; dsimp only; omega) (cell_aside _ (by have := unhide S0; dsimp only; omega) hd1)))), (cell_aside _ (by have := unhide S0; dsimp only; omega) (cell_aside _ (by have := unhide S0; dsimp only; omega) (cell_aside _ (by have := unhide S0; dsimp only; omega) (cell_aside _ (by have := unhide S0; dsimp only; omega) hm3))))⟩
        clear hK KK
        try simp only [Act.put, List.getElem_toArray, List.getElem_cons_succ, List.getElem_cons_zero, List.setIfInBounds_toArray, List.set_cons_zero, List.set_cons_succ]
        refine wpAnyH_done (by kernel_rfl) ?_ _
        clear hHeld
        go_wp2_with fail
        go_meet
        exact ⟨_, rfl, by omega, Bx4.set s B1 B0 mo y0 y1 y2 y3, ((((kw.setNew (p := ⟨w3.heap.size, 0, none⟩) (by have := unhide S0; dsimp only; omega) (.bool s)).setNew (p := ⟨w3.heap.size, 1, none⟩) (by have := unhide S0; dsimp only; omega) (.bool B1)).setNew (p := ⟨w3.heap.size, 2, none⟩) (by have := unhide S0; dsimp only; omega) (.bool B0)).setNew (p := ⟨w3.heap.size, 3, none⟩) (by have := unhide S0; dsimp only; omega) (.bool mo))⟩
    · simp only [List.getElem_toArray, List.getElem_cons_succ, List.getElem_cons_zero]
      rw [if_pos (by rfl)]
      go_simp
      have kn := (Kept.refl 0 0 wd2).alloc (.cells #[.bool false, .bool false, .bool false, .bool false] 102)
      replace kw := kw.trans kn
      replace h := h.kept kn
      replace d := d.kept kn
      replace ex := ex.kept kn
      replace m := m.kept kn
      replace qf0 := kn.loose0 (World.block_lt_of_cell? _ _ q0) qf0
      replace qf1 := kn.loose0 (World.block_lt_of_cell? _ _ q1) qf1
      replace qf2 := kn.loose0 (World.block_lt_of_cell? _ _ q2) qf2
      replace q0 := kn.cell0 q0
      replace q1 := kn.cell0 q1
      replace q2 := kn.cell0 q2
      replace hd1 := kn.cell0 hd1
      replace hm3 := kn.cell0 hm3
      replace K := hide ((unhide K).trans kn)
      have z4 := kn.size
      clear kn
      have szy : wd2.heap.size < (wd2.alloc (.cells #[.bool false, .bool false, .bool false, .bool false] 102)).heap.size := by simp
      have y0 : (wd2.alloc (.cells #[.bool false, .bool false, .bool false, .bool false] 102)).cell? ⟨wd2.heap.size, 0, none⟩ = some (.bool false) := new_cell2 _ _ _ _ _ _ rfl rfl
      have yf0 : (wd2.alloc (.cells #[.bool false, .bool false, .bool false, .bool false] 102)).frozen? ⟨wd2.heap.size, 0, none⟩ = false := new_loose2 _ _ _ _ _ rfl
      have y1 : (wd2.alloc (.cells #[.bool false, .bool false, .bool false, .bool false] 102)).cell? ⟨wd2.heap.size, 1, none⟩ = some (.bool false) := new_cell2 _ _ _ _ _ _ rfl rfl
      have yf1 : (wd2.alloc (.cells #[.bool false, .bool false, .bool false, .bool false] 102)).frozen? ⟨wd2.heap.size, 1, none⟩ = false := new_loose2 _ _ _ _ _ rfl
      have y2 : (wd2.alloc (.cells #[.bool false, .bool false, .bool false, .bool false] 102)).cell? ⟨wd2.heap.size, 2, none⟩ = some (.bool false) := new_cell2 _ _ _ _ _ _ rfl rfl
      have yf2 : (wd2.alloc (.cells #[.bool false, .bool false, .bool false, .bool false] 102)).frozen? ⟨wd2.heap.size, 2, none⟩ = false := new_loose2 _ _ _ _ _ rfl
      have y3 : (wd2.alloc (.cells #[.bool false, .bool false, .bool false, .bool false] 102)).cell? ⟨wd2.heap.size, 3, none⟩ = some (.bool false) := new_cell2 _ _ _ _ _ _ rfl rfl
      have yf3 : (wd2.alloc (.cells #[.bool false, .bool false, .bool false, .bool false] 102)).frozen? ⟨wd2.heap.size, 3, none⟩ = false := new_loose2 _ _ _ _ _ rfl
      clear hHeld
      refine hK.out _ _ ?_ (fun hHeld => ?_)
      · exact ⟨hd1, hm3⟩
      clear hK KK
      try simp only [Act.put, List.getElem_toArray, List.getElem_cons_succ, List.getElem_cons_zero, List.setIfInBounds_toArray, List.set_cons_zero, List.set_cons_succ]
      generalize wd2.alloc (.cells #[.bool false, .bool false, .bool false, .bool false] 102) = w3 at *
      refine wpAnyH_ready (rs := [9]) (by kernel_rfl) (by simp) ?_
      refine AllReadyH.cons rfl (fun KK hK => ?_) AllReadyH.nil
      simp only [List.getElem_toArray, List.getElem_cons_succ, List.getElem_cons_zero]
      rw [if_pos (by rfl)]
      refine wps2 60 (.tmp 18) (.const (.int .i64 1)) _ rfl in_bit (.pointer (some ⟨g, 0, none⟩)) (.int .i64 1) rfl rfl (bit_kept _ h.work hn.1 1 (by omega) (by omega) c1 (unhide HC1)) ?_
      rintro e w5 ⟨rfl, k5⟩
      refine ⟨_, rfl, ?_⟩
      replace kw := kw.trans k5
      replace h := h.kept k5
      replace d := d.kept k5
      replace ex := ex.kept k5
      replace m := m.kept k5
      replace qf0 := k5.loose0 (World.block_lt_of_cell? _ _ q0) qf0
      replace qf1 := k5.loose0 (World.block_lt_of_cell? _ _ q1) qf1
      replace qf2 := k5.loose0 (World.block_lt_of_cell? _ _ q2) qf2
      replace yf0 := k5.loose0 (World.block_lt_of_cell? _ _ y0) yf0
      replace yf1 := k5.loose0 (World.block_lt_of_cell? _ _ y1) yf1
      replace yf2 := k5.loose0 (World.block_lt_of_cell? _ _ y2) yf2
      replace yf3 := k5.loose0 (World.block_lt_of_cell? _ _ y3) yf3
      replace q0 := k5.cell0 q0
      replace q1 := k5.cell0 q1
      replace q2 := k5.cell0 q2
      replace hd1 := k5.cell0 hd1
      replace hm3 := k5.cell0 hm3
      replace y0 := k5.cell0 y0
      replace y1 := k5.cell0 y1
      replace y2 := k5.cell0 y2
      replace y3 := k5.cell0 y3
      replace K := hide ((unhide K).trans k5)
      have z6 := k5.size
      clear k5
      clear hHeld
      refine hK.out _ _ ?_ (fun hHeld => ?_)
      · exact ⟨hd1, hm3⟩
      clear hK KK
      try simp only [Act.put, List.getElem_toArray, List.getElem_cons_succ, List.getElem_cons_zero, List.setIfInBounds_toArray, List.set_cons_zero, List.set_cons_succ]
      refine wpAnyH_take (i := 10) (oi := _) (v := .bool B1) rfl (by kernel_rfl) (by kernel_rfl) (by kernel_rfl) (fun _ _ _ h => h) (Or.inl ⟨by rfl, ?_⟩) hHeld ?_
      · intro wq hSw
        try dsimp only at hSw
        go_simp
      try simp only [Act.put, List.getElem_toArray, List.getElem_cons_succ, List.getElem_cons_zero, List.setIfInBounds_toArray, List.set_cons_zero, List.set_cons_succ]
      refine wpAnyH_ready (rs := [15]) (by kernel_rfl) (by simp) ?_
      refine AllReadyH.cons rfl (fun KK hK => ?_) AllReadyH.nil
      simp only [List.getElem_toArray, List.getElem_cons_succ, List.getElem_cons_zero]
      rw [if_pos (by rfl)]
      refine wps2 60 (.tmp 24) (.const (.int .i64 0)) _ rfl in_bit (.pointer (some ⟨g, 0, none⟩)) (.int .i64 0) rfl rfl (bit_kept _ h.work hn.1 0 (by omega) (by omega) c0 (unhide HC0)) ?_
      rintro e w7 ⟨rfl, k7⟩
      refine ⟨_, rfl, ?_⟩
      replace kw := kw.trans k7
      replace h := h.kept k7
      replace d := d.kept k7
      replace ex := ex.kept k7
      replace m := m.kept k7
      replace qf0 := k7.loose0 (World.block_lt_of_cell? _ _ q0) qf0
      replace qf1 := k7.loose0 (World.block_lt_of_cell? _ _ q1) qf1
      replace qf2 := k7.loose0 (World.block_lt_of_cell? _ _ q2) qf2
      replace yf0 := k7.loose0 (World.block_lt_of_cell? _ _ y0) yf0
      replace yf1 := k7.loose0 (World.block_lt_of_cell? _ _ y1) yf1
      replace yf2 := k7.loose0 (World.block_lt_of_cell? _ _ y2) yf2
      replace yf3 := k7.loose0 (World.block_lt_of_cell? _ _ y3) yf3
      replace q0 := k7.cell0 q0
      replace q1 := k7.cell0 q1
      replace q2 := k7.cell0 q2
      replace hd1 := k7.cell0 hd1
      replace hm3 := k7.cell0 hm3
      replace y0 := k7.cell0 y0
      replace y1 := k7.cell0 y1
      replace y2 := k7.cell0 y2
      replace y3 := k7.cell0 y3
      replace K := hide ((unhide K).trans k7)
      have z8 := k7.size
      clear k7
      clear hHeld
      refine hK.out _ _ ?_ (fun hHeld => ?_)
      · exact ⟨hd1, hm3⟩
      clear hK KK
      try simp only [Act.put, List.getElem_toArray, List.getElem_cons_succ, List.getElem_cons_zero, List.setIfInBounds_toArray, List.set_cons_zero, List.set_cons_succ]
      refine wpAnyH_take (i := 16) (oi := _) (v := .bool B0) rfl (by kernel_rfl) (by kernel_rfl) (by kernel_rfl) (fun _ _ _ h => h) (Or.inl ⟨by rfl, ?_⟩) hHeld ?_
      · intro wq hSw
        try dsimp only at hSw
        go_simp
      try simp only [Act.put, List.getElem_toArray, List.getElem_cons_succ, List.getElem_cons_zero, List.setIfInBounds_toArray, List.set_cons_zero, List.set_cons_succ]
      refine wpAnyH_take (i := 21) (oi := _) (v := .agg #[.bool s, .bool B1, .bool B0, .bool mo]) rfl (by kernel_rfl) (by kernel_rfl) (by kernel_rfl) (fun _ _ _ h => h) (Or.inl ⟨by rfl, ?_⟩) hHeld ?_
      · intro wq hSw
        try dsimp only at hSw
        go_simp
      try simp only [Act.put, List.getElem_toArray, List.getElem_cons_succ, List.getElem_cons_zero, List.setIfInBounds_toArray, List.set_cons_zero, List.set_cons_succ]
      refine wpAnyH_ready (rs := [23]) (by kernel_rfl) (by simp) ?_
      refine AllReadyH.cons rfl (fun KK hK => ?_) AllReadyH.nil
      simp only [List.getElem_toArray, List.getElem_cons_succ, List.getElem_cons_zero]
      rw [if_pos (by rfl)]
      go_simp
      clear hHeld
      refine hK.out _ _ ?_ (fun hHeld => ?_)
      · exact ⟨(cell_aside _ (by have := unhide S0; dsimp only; omega) (cell_aside _ (by have := unhide S0; dsimp only; omega) (cell_aside _ (by have := unhide S0; dsimp only; omega) (cell_aside _ (by have := unhide S0; dsimp only; omega) hd1)))), (cell_aside _ (by have := unhide S0; dsimp only; omega) (cell_aside _ (by have := unhide S0; dsimp only; omega) (cell_aside _ (by have := unhide S0; dsimp only; omega) (cell_aside _ (by have := unhide S0; dsimp only; omega) hm3))))⟩
      clear hK KK
      try simp only [Act.put, List.getElem_toArray, List.getElem_cons_succ, List.getElem_cons_zero, List.setIfInBounds_toArray, List.set_cons_zero, List.set_cons_succ]
      refine wpAnyH_done (by kernel_rfl) ?_ _
      clear hHeld
      go_wp2_with fail
      go_meet
      exact ⟨_, rfl, by omega, Bx4.set s B1 B0 mo y0 y1 y2 y3, ((((kw.setNew (p := ⟨wd2.heap.size, 0, none⟩) (by have := unhide S0; dsimp only; omega) (.bool s)).setNew (p := ⟨wd2.heap.size, 1, none⟩) (by have := unhide S0; dsimp only; omega) (.bool B1)).setNew (p := ⟨wd2.heap.size, 2, none⟩) (by have := unhide S0; dsimp only; omega) (.bool B0)).setNew (p := ⟨wd2.heap.size, 3, none⟩) (by have := unhide S0; dsimp only; omega) (.bool mo))⟩
  case rest =>
    obtain ⟨X, rfl, hX, bx, kx⟩ := hcut
    replace h := h.kept kx
    replace d := d.kept kx
    replace ex := ex.kept kx
    replace m := m.kept kx
    replace qf0 := kx.loose0 (World.block_lt_of_cell? _ _ q0) qf0
    replace qf1 := kx.loose0 (World.block_lt_of_cell? _ _ q1) qf1
    replace qf2 := kx.loose0 (World.block_lt_of_cell? _ _ q2) qf2
    replace q0 := kx.cell0 q0
    replace q1 := kx.cell0 q1
    replace q2 := kx.cell0 q2
    replace K := hide ((unhide K).trans kx)
    have z1 := kx.size
    clear kx HC1 HC0 hb1 hb0
    go_wp2_with fail
    refine (shiftDown_wrk _ h hn.1 (by omega) 1 (by omega)).mono ?_
    rintro e w2 ⟨⟨r2, rfl⟩, u2, n2, o2, m2, sd2⟩
    rw [unhide HV, show V / 2 ^ 1 = V / 2 from rfl] at n2
    have hS0 := unhide S0
    have nX : ¬ Own1 g v X := fun e => e.elim (fun e => by omega) (fun e => by have := own _ e; omega)
    have nR : ¬ Own1 g v w.heap.size := fun e => e.elim (fun e => by omega) (fun e => by have := own _ e; omega)
    replace d := d.same sd2
    replace ex := ex.tail sd2.tail
    replace bx := bx.mod m2 nX
    replace qf0 := m2.loose (a := ⟨w.heap.size, 0, none⟩) nR (World.block_lt_of_cell? _ _ q0) qf0
    replace qf1 := m2.loose (a := ⟨w.heap.size, 1, none⟩) nR (World.block_lt_of_cell? _ _ q1) qf1
    replace qf2 := m2.loose (a := ⟨w.heap.size, 2, none⟩) nR (World.block_lt_of_cell? _ _ q2) qf2
    replace q0 := m2.cell (a := ⟨w.heap.size, 0, none⟩) nR q0
    replace q1 := m2.cell (a := ⟨w.heap.size, 1, none⟩) nR q1
    replace q2 := m2.cell (a := ⟨w.heap.size, 2, none⟩) nR q2
    have MM : Hid (Mod (Own1 g v) w w2) := Mod.trans (unhide K).toMod m2
    have zm := m2.size
    clear h m m2 sd2 K nX nR
    obtain ⟨bx0, bx1, bx2, bx3⟩ := bx
    go_upto_region 4 with fail
    go_cut [5, 46] (fun e5 p wx => p = .bool UP ∧ Kept 0 0 w2 wx)
    case first =>
      have kw := Kept.refl 0 0 w2
      have K := hide (Kept.refl 0 0 w2)
      clear MM n2 o2 d ex
      cases hE : EX
      · rw [hE] at HUP
        have hup := unhide HUP
        simp only [Bool.not_false, Bool.true_and] at hup
        clear HUP HEX
        have kd := (Kept.refl 0 0 w2).drew
        replace kw := kw.trans kd
        replace bx0 := kd.cell0 bx0
        replace bx1 := kd.cell0 bx1
        replace bx2 := kd.cell0 bx2
        replace bx3 := kd.cell0 bx3
        replace K := hide ((unhide K).trans kd)
        have z2 := kd.size
        clear kd
        obtain rfl | rfl | rfl | rfl | rfl : mode = 0 ∨ mode = 1 ∨ mode = 2 ∨ mode = 3 ∨ mode = 4 := by omega
        · skip
          refine wp_region_held_drew (S := (fun w' => w'.cell? ⟨X, 0, none⟩ = some (.bool s) ∧ w'.cell? ⟨X, 1, none⟩ = some (.bool B1) ∧ w'.cell? ⟨X, 2, none⟩ = some (.bool B0) ∧ w'.cell? ⟨X, 3, none⟩ = some (.bool mo))) (by kernel_rfl) ?_ (fun hHeld => ?_)
          · exact ⟨bx0, bx1, bx2, bx3⟩
          generalize w2.drew = wd at *
          refine wpAnyH_take (i := 0) (oi := _) (v := .bool false) rfl (by kernel_rfl) (by kernel_rfl) (by kernel_rfl) (fun _ _ _ h => h) (Or.inl ⟨by rfl, ?_⟩) hHeld ?_
          · intro wq hSw
            try dsimp only at hSw
            go_simp
          try simp only [Act.put, List.getElem_toArray, List.getElem_cons_succ, List.getElem_cons_zero, List.setIfInBounds_toArray, List.set_cons_zero, List.set_cons_succ]
          refine wpAnyH_take (i := 1) (oi := _) (v := .bool true) rfl (by kernel_rfl) (by kernel_rfl) (by kernel_rfl) (fun _ _ _ h => h) (Or.inl ⟨by rfl, ?_⟩) hHeld ?_
          · intro wq hSw
            try dsimp only at hSw
            go_simp
          try simp only [Act.put, List.getElem_toArray, List.getElem_cons_succ, List.getElem_cons_zero, List.setIfInBounds_toArray, List.set_cons_zero, List.set_cons_succ]
          refine wpAnyH_take (i := 2) (oi := _) (v := .bool true) rfl (by kernel_rfl) (by kernel_rfl) (by kernel_rfl) (fun _ _ _ h => h) (Or.inl ⟨by rfl, ?_⟩) hHeld ?_
          · intro wq hSw
            try dsimp only at hSw
            go_simp
          try simp only [Act.put, List.getElem_toArray, List.getElem_cons_succ, List.getElem_cons_zero, List.setIfInBounds_toArray, List.set_cons_zero, List.set_cons_succ]
          refine wpAnyH_take (i := 4) (oi := _) (v := .int .i64 0) rfl (by kernel_rfl) (by kernel_rfl) (by kernel_rfl) (fun _ _ _ h => h) (Or.inl ⟨by rfl, ?_⟩) hHeld ?_
          · intro wq hSw
            try dsimp only at hSw
            go_simp
          try simp only [Act.put, List.getElem_toArray, List.getElem_cons_succ, List.getElem_cons_zero, List.setIfInBounds_toArray, List.set_cons_zero, List.set_cons_succ]
          refine wpAnyH_take (i := 7) (oi := _) (v := .agg #[.bool s, .bool B1, .bool B0, .bool mo]) rfl (by kernel_rfl) (by kernel_rfl) (by kernel_rfl) (fun _ _ _ h => h) (Or.inl ⟨by rfl, ?_⟩) hHeld ?_
          · intro wq hSw
            try dsimp only at hSw
            go_simp
          try simp only [Act.put, List.getElem_toArray, List.getElem_cons_succ, List.getElem_cons_zero, List.setIfInBounds_toArray, List.set_cons_zero, List.set_cons_succ]
          refine wpAnyH_ready (rs := [3]) (by kernel_rfl) (by simp) ?_
          refine AllReadyH.cons rfl (fun KK hK => ?_) AllReadyH.nil
          simp only [List.getElem_toArray, List.getElem_cons_succ, List.getElem_cons_zero]
          rw [if_pos (by rfl)]
          refine wps0 62 _ rfl in_roundings (roundings_impl _) ?_
          rintro e w3 ⟨rfl, k3⟩
          refine ⟨_, rfl, ?_⟩
          replace kw := kw.trans k3
          replace bx0 := k3.cell0 bx0
          replace bx1 := k3.cell0 bx1
          replace bx2 := k3.cell0 bx2
          replace bx3 := k3.cell0 bx3
          replace K := hide ((unhide K).trans k3)
          have z3 := k3.size
          clear k3
          clear hHeld
          refine hK.out _ _ ?_ (fun hHeld => ?_)
          · exact ⟨bx0, bx1, bx2, bx3⟩
          clear hK KK
          try simp only [Act.put, List.getElem_toArray, List.getElem_cons_succ, List.getElem_cons_zero, List.setIfInBounds_toArray, List.set_cons_zero, List.set_cons_succ]
          have hix := idx_r0
          have hfl := fld_r0
          refine wpAnyH_take (i := 5) (oi := _) (v := .agg #[.func (.func 82) #[] #[]]) rfl (by kernel_rfl) (by kernel_rfl) (by kernel_rfl) (fun _ _ _ h => h) (Or.inl ⟨by rfl, ?_⟩) hHeld ?_
          · intro wq hSw
            try dsimp only at hSw
            go_simp
          try simp only [Act.put, List.getElem_toArray, List.getElem_cons_succ, List.getElem_cons_zero, List.setIfInBounds_toArray, List.set_cons_zero, List.set_cons_succ]
          refine wpAnyH_take (i := 6) (oi := _) (v := .func (.func 82) #[] #[]) rfl (by kernel_rfl) (by kernel_rfl) (by kernel_rfl) (fun _ _ _ h => h) (Or.inl ⟨by rfl, ?_⟩) hHeld ?_
          · intro wq hSw
            try dsimp only at hSw
            go_simp
          try simp only [Act.put, List.getElem_toArray, List.getElem_cons_succ, List.getElem_cons_zero, List.setIfInBounds_toArray, List.set_cons_zero, List.set_cons_succ]
          refine wpAnyH_ready (rs := [8]) (by kernel_rfl) (by simp) ?_
          refine AllReadyH.cons rfl (fun KK hK => ?_) AllReadyH.nil
          simp only [List.getElem_toArray, List.getElem_cons_succ, List.getElem_cons_zero]
          rw [if_pos (by rfl)]
          refine wpv1 82 (.tmp 43) (.tmp 44) _ rfl rfl in_ups1 (exv s B1 B0 mo) rfl (ups1 s B1 B0 mo _) ?_
          rintro e w4 ⟨rfl, k4⟩
          refine ⟨_, rfl, ?_⟩
          replace kw := kw.trans k4
          replace bx0 := k4.cell0 bx0
          replace bx1 := k4.cell0 bx1
          replace bx2 := k4.cell0 bx2
          replace bx3 := k4.cell0 bx3
          replace K := hide ((unhide K).trans k4)
          have z4 := k4.size
          clear k4
          clear hHeld
          refine hK.out _ _ ?_ (fun hHeld => ?_)
          · exact ⟨bx0, bx1, bx2, bx3⟩
          clear hK KK
          try simp only [Act.put, List.getElem_toArray, List.getElem_cons_succ, List.getElem_cons_zero, List.setIfInBounds_toArray, List.set_cons_zero, List.set_cons_succ]
          rw [show upsB 0 s B1 B0 mo = UP from hup]
          refine wpAnyH_take (i := 9) (oi := _) (v := .bool UP) rfl (by kernel_rfl) (by kernel_rfl) (by kernel_rfl) (fun _ _ _ h => h) (Or.inl ⟨by rfl, ?_⟩) hHeld ?_
          · intro wq hSw
            try dsimp only at hSw
            go_simp
          try simp only [Act.put, List.getElem_toArray, List.getElem_cons_succ, List.getElem_cons_zero, List.setIfInBounds_toArray, List.set_cons_zero, List.set_cons_succ]
          refine wpAnyH_done (by kernel_rfl) ?_ _
          clear hHeld
          go_wp2_with fail
          go_meet
          exact ⟨rfl, kw⟩
        · skip
          refine wp_region_held_drew (S := (fun w' => w'.cell? ⟨X, 0, none⟩ = some (.bool s) ∧ w'.cell? ⟨X, 1, none⟩ = some (.bool B1) ∧ w'.cell? ⟨X, 2, none⟩ = some (.bool B0) ∧ w'.cell? ⟨X, 3, none⟩ = some (.bool mo))) (by kernel_rfl) ?_ (fun hHeld => ?_)
          · exact ⟨bx0, bx1, bx2, bx3⟩
          generalize w2.drew = wd at *
          refine wpAnyH_take (i := 0) (oi := _) (v := .bool false) rfl (by kernel_rfl) (by kernel_rfl) (by kernel_rfl) (fun _ _ _ h => h) (Or.inl ⟨by rfl, ?_⟩) hHeld ?_
          · intro wq hSw
            try dsimp only at hSw
            go_simp
          try simp only [Act.put, List.getElem_toArray, List.getElem_cons_succ, List.getElem_cons_zero, List.setIfInBounds_toArray, List.set_cons_zero, List.set_cons_succ]
          refine wpAnyH_take (i := 1) (oi := _) (v := .bool true) rfl (by kernel_rfl) (by kernel_rfl) (by kernel_rfl) (fun _ _ _ h => h) (Or.inl ⟨by rfl, ?_⟩) hHeld ?_
          · intro wq hSw
            try dsimp only at hSw
            go_simp
          try simp only [Act.put, List.getElem_toArray, List.getElem_cons_succ, List.getElem_cons_zero, List.setIfInBounds_toArray, List.set_cons_zero, List.set_cons_succ]
          refine wpAnyH_take (i := 2) (oi := _) (v := .bool true) rfl (by kernel_rfl) (by kernel_rfl) (by kernel_rfl) (fun _ _ _ h => h) (Or.inl ⟨by rfl, ?_⟩) hHeld ?_
          · intro wq hSw
            try dsimp only at hSw
            go_simp
          try simp only [Act.put, List.getElem_toArray, List.getElem_cons_succ, List.getElem_cons_zero, List.setIfInBounds_toArray, List.set_cons_zero, List.set_cons_succ]
          refine wpAnyH_take (i := 4) (oi := _) (v := .int .i64 1) rfl (by kernel_rfl) (by kernel_rfl) (by kernel_rfl) (fun _ _ _ h => h) (Or.inl ⟨by rfl, ?_⟩) hHeld ?_
          · intro wq hSw
            try dsimp only at hSw
            go_simp
          try simp only [Act.put, List.getElem_toArray, List.getElem_cons_succ, List.getElem_cons_zero, List.setIfInBounds_toArray, List.set_cons_zero, List.set_cons_succ]
          refine wpAnyH_take (i := 7) (oi := _) (v := .agg #[.bool s, .bool B1, .bool B0, .bool mo]) rfl (by kernel_rfl) (by kernel_rfl) (by kernel_rfl) (fun _ _ _ h => h) (Or.inl ⟨by rfl, ?_⟩) hHeld ?_
          · intro wq hSw
            try dsimp only at hSw
            go_simp
          try simp only [Act.put, List.getElem_toArray, List.getElem_cons_succ, List.getElem_cons_zero, List.setIfInBounds_toArray, List.set_cons_zero, List.set_cons_succ]
          refine wpAnyH_ready (rs := [3]) (by kernel_rfl) (by simp) ?_
          refine AllReadyH.cons rfl (fun KK hK => ?_) AllReadyH.nil
          simp only [List.getElem_toArray, List.getElem_cons_succ, List.getElem_cons_zero]
          rw [if_pos (by rfl)]
          refine wps0 62 _ rfl in_roundings (roundings_impl _) ?_
          rintro e w3 ⟨rfl, k3⟩
          refine ⟨_, rfl, ?_⟩
          replace kw := kw.trans k3
          replace bx0 := k3.cell0 bx0
          replace bx1 := k3.cell0 bx1
          replace bx2 := k3.cell0 bx2
          replace bx3 := k3.cell0 bx3
          replace K := hide ((unhide K).trans k3)
          have z3 := k3.size
          clear k3
          clear hHeld
          refine hK.out _ _ ?_ (fun hHeld => ?_)
          · exact ⟨bx0, bx1, bx2, bx3⟩
          clear hK KK
          try simp only [Act.put, List.getElem_toArray, List.getElem_cons_succ, List.getElem_cons_zero, List.setIfInBounds_toArray, List.set_cons_zero, List.set_cons_succ]
          have hix := idx_r1
          have hfl := fld_r1
          refine wpAnyH_take (i := 5) (oi := _) (v := .agg #[.func (.func 83) #[] #[]]) rfl (by kernel_rfl) (by kernel_rfl) (by kernel_rfl) (fun _ _ _ h => h) (Or.inl ⟨by rfl, ?_⟩) hHeld ?_
          · intro wq hSw
            try dsimp only at hSw
            go_simp
          try simp only [Act.put, List.getElem_toArray, List.getElem_cons_succ, List.getElem_cons_zero, List.setIfInBounds_toArray, List.set_cons_zero, List.set_cons_succ]
          refine wpAnyH_take (i := 6) (oi := _) (v := .func (.func 83) #[] #[]) rfl (by kernel_rfl) (by kernel_rfl) (by kernel_rfl) (fun _ _ _ h => h) (Or.inl ⟨by rfl, ?_⟩) hHeld ?_
          · intro wq hSw
            try dsimp only at hSw
            go_simp
          try simp only [Act.put, List.getElem_toArray, List.getElem_cons_succ, List.getElem_cons_zero, List.setIfInBounds_toArray, List.set_cons_zero, List.set_cons_succ]
          refine wpAnyH_ready (rs := [8]) (by kernel_rfl) (by simp) ?_
          refine AllReadyH.cons rfl (fun KK hK => ?_) AllReadyH.nil
          simp only [List.getElem_toArray, List.getElem_cons_succ, List.getElem_cons_zero]
          rw [if_pos (by rfl)]
          refine wpv1 83 (.tmp 43) (.tmp 44) _ rfl rfl in_ups2 (exv s B1 B0 mo) rfl (ups2 s B1 B0 mo _) ?_
          rintro e w4 ⟨rfl, k4⟩
          refine ⟨_, rfl, ?_⟩
          replace kw := kw.trans k4
          replace bx0 := k4.cell0 bx0
          replace bx1 := k4.cell0 bx1
          replace bx2 := k4.cell0 bx2
          replace bx3 := k4.cell0 bx3
          replace K := hide ((unhide K).trans k4)
          have z4 := k4.size
          clear k4
          clear hHeld
          refine hK.out _ _ ?_ (fun hHeld => ?_)
          · exact ⟨bx0, bx1, bx2, bx3⟩
          clear hK KK
          try simp only [Act.put, List.getElem_toArray, List.getElem_cons_succ, List.getElem_cons_zero, List.setIfInBounds_toArray, List.set_cons_zero, List.set_cons_succ]
          rw [show upsB 1 s B1 B0 mo = UP from hup]
          refine wpAnyH_take (i := 9) (oi := _) (v := .bool UP) rfl (by kernel_rfl) (by kernel_rfl) (by kernel_rfl) (fun _ _ _ h => h) (Or.inl ⟨by rfl, ?_⟩) hHeld ?_
          · intro wq hSw
            try dsimp only at hSw
            go_simp
          try simp only [Act.put, List.getElem_toArray, List.getElem_cons_succ, List.getElem_cons_zero, List.setIfInBounds_toArray, List.set_cons_zero, List.set_cons_succ]
          refine wpAnyH_done (by kernel_rfl) ?_ _
          clear hHeld
          go_wp2_with fail
          go_meet
          exact ⟨rfl, kw⟩
        · skip
          refine wp_region_held_drew (S := (fun w' => w'.cell? ⟨X, 0, none⟩ = some (.bool s) ∧ w'.cell? ⟨X, 1, none⟩ = some (.bool B1) ∧ w'.cell? ⟨X, 2, none⟩ = some (.bool B0) ∧ w'.cell? ⟨X, 3, none⟩ = some (.bool mo))) (by kernel_rfl) ?_ (fun hHeld => ?_)
          · exact ⟨bx0, bx1, bx2, bx3⟩
          generalize w2.drew = wd at *
          refine wpAnyH_take (i := 0) (oi := _) (v := .bool false) rfl (by kernel_rfl) (by kernel_rfl) (by kernel_rfl) (fun _ _ _ h => h) (Or.inl ⟨by rfl, ?_⟩) hHeld ?_
          · intro wq hSw
            try dsimp only at hSw
            go_simp
          try simp only [Act.put, List.getElem_toArray, List.getElem_cons_succ, List.getElem_cons_zero, List.setIfInBounds_toArray, List.set_cons_zero, List.set_cons_succ]
          refine wpAnyH_take (i := 1) (oi := _) (v := .bool true) rfl (by kernel_rfl) (by kernel_rfl) (by kernel_rfl) (fun _ _ _ h => h) (Or.inl ⟨by rfl, ?_⟩) hHeld ?_
          · intro wq hSw
            try dsimp only at hSw
            go_simp
          try simp only [Act.put, List.getElem_toArray, List.getElem_cons_succ, List.getElem_cons_zero, List.setIfInBounds_toArray, List.set_cons_zero, List.set_cons_succ]
          refine wpAnyH_take (i := 2) (oi := _) (v := .bool true) rfl (by kernel_rfl) (by kernel_rfl) (by kernel_rfl) (fun _ _ _ h => h) (Or.inl ⟨by rfl, ?_⟩) hHeld ?_
          · intro wq hSw
            try dsimp only at hSw
            go_simp
          try simp only [Act.put, List.getElem_toArray, List.getElem_cons_succ, List.getElem_cons_zero, List.setIfInBounds_toArray, List.set_cons_zero, List.set_cons_succ]
          refine wpAnyH_take (i := 4) (oi := _) (v := .int .i64 2) rfl (by kernel_rfl) (by kernel_rfl) (by kernel_rfl) (fun _ _ _ h => h) (Or.inl ⟨by rfl, ?_⟩) hHeld ?_
          · intro wq hSw
            try dsimp only at hSw
            go_simp
          try simp only [Act.put, List.getElem_toArray, List.getElem_cons_succ, List.getElem_cons_zero, List.setIfInBounds_toArray, List.set_cons_zero, List.set_cons_succ]
          refine wpAnyH_take (i := 7) (oi := _) (v := .agg #[.bool s, .bool B1, .bool B0, .bool mo]) rfl (by kernel_rfl) (by kernel_rfl) (by kernel_rfl) (fun _ _ _ h => h) (Or.inl ⟨by rfl, ?_⟩) hHeld ?_
          · intro wq hSw
            try dsimp only at hSw
            go_simp
          try simp only [Act.put, List.getElem_toArray, List.getElem_cons_succ, List.getElem_cons_zero, List.setIfInBounds_toArray, List.set_cons_zero, List.set_cons_succ]
          refine wpAnyH_ready (rs := [3]) (by kernel_rfl) (by simp) ?_
          refine AllReadyH.cons rfl (fun KK hK => ?_) AllReadyH.nil
          simp only [List.getElem_toArray, List.getElem_cons_succ, List.getElem_cons_zero]
          rw [if_pos (by rfl)]
          refine wps0 62 _ rfl in_roundings (roundings_impl _) ?_
          rintro e w3 ⟨rfl, k3⟩
          refine ⟨_, rfl, ?_⟩
          replace kw := kw.trans k3
          replace bx0 := k3.cell0 bx0
          replace bx1 := k3.cell0 bx1
          replace bx2 := k3.cell0 bx2
          replace bx3 := k3.cell0 bx3
          replace K := hide ((unhide K).trans k3)
          have z3 := k3.size
          clear k3
          clear hHeld
          refine hK.out _ _ ?_ (fun hHeld => ?_)
          · exact ⟨bx0, bx1, bx2, bx3⟩
          clear hK KK
          try simp only [Act.put, List.getElem_toArray, List.getElem_cons_succ, List.getElem_cons_zero, List.setIfInBounds_toArray, List.set_cons_zero, List.set_cons_succ]
          have hix := idx_r2
          have hfl := fld_r2
          refine wpAnyH_take (i := 5) (oi := _) (v := .agg #[.func (.func 84) #[] #[]]) rfl (by kernel_rfl) (by kernel_rfl) (by kernel_rfl) (fun _ _ _ h => h) (Or.inl ⟨by rfl, ?_⟩) hHeld ?_
          · intro wq hSw
            try dsimp only at hSw
            go_simp
          try simp only [Act.put, List.getElem_toArray, List.getElem_cons_succ, List.getElem_cons_zero, List.setIfInBounds_toArray, List.set_cons_zero, List.set_cons_succ]
          refine wpAnyH_take (i := 6) (oi := _) (v := .func (.func 84) #[] #[]) rfl (by kernel_rfl) (by kernel_rfl) (by kernel_rfl) (fun _ _ _ h => h) (Or.inl ⟨by rfl, ?_⟩) hHeld ?_
          · intro wq hSw
            try dsimp only at hSw
            go_simp
          try simp only [Act.put, List.getElem_toArray, List.getElem_cons_succ, List.getElem_cons_zero, List.setIfInBounds_toArray, List.set_cons_zero, List.set_cons_succ]
          refine wpAnyH_ready (rs := [8]) (by kernel_rfl) (by simp) ?_
          refine AllReadyH.cons rfl (fun KK hK => ?_) AllReadyH.nil
          simp only [List.getElem_toArray, List.getElem_cons_succ, List.getElem_cons_zero]
          rw [if_pos (by rfl)]
          refine wpv1 84 (.tmp 43) (.tmp 44) _ rfl rfl in_ups3 (exv s B1 B0 mo) rfl (ups3 s B1 B0 mo _) ?_
          rintro e w4 ⟨rfl, k4⟩
          refine ⟨_, rfl, ?_⟩
          replace kw := kw.trans k4
          replace bx0 := k4.cell0 bx0
          replace bx1 := k4.cell0 bx1
          replace bx2 := k4.cell0 bx2
          replace bx3 := k4.cell0 bx3
          replace K := hide ((unhide K).trans k4)
          have z4 := k4.size
          clear k4
          clear hHeld
          refine hK.out _ _ ?_ (fun hHeld => ?_)
          · exact ⟨bx0, bx1, bx2, bx3⟩
          clear hK KK
          try simp only [Act.put, List.getElem_toArray, List.getElem_cons_succ, List.getElem_cons_zero, List.setIfInBounds_toArray, List.set_cons_zero, List.set_cons_succ]
          rw [show upsB 2 s B1 B0 mo = UP from hup]
          refine wpAnyH_take (i := 9) (oi := _) (v := .bool UP) rfl (by kernel_rfl) (by kernel_rfl) (by kernel_rfl) (fun _ _ _ h => h) (Or.inl ⟨by rfl, ?_⟩) hHeld ?_
          · intro wq hSw
            try dsimp only at hSw
            go_simp
          try simp only [Act.put, List.getElem_toArray, List.getElem_cons_succ, List.getElem_cons_zero, List.setIfInBounds_toArray, List.set_cons_zero, List.set_cons_succ]
          refine wpAnyH_done (by kernel_rfl) ?_ _
          clear hHeld
          go_wp2_with fail
          go_meet
          exact ⟨rfl, kw⟩
        · skip
          refine wp_region_held_drew (S := (fun w' => w'.cell? ⟨X, 0, none⟩ = some (.bool s) ∧ w'.cell? ⟨X, 1, none⟩ = some (.bool B1) ∧ w'.cell? ⟨X, 2, none⟩ = some (.bool B0) ∧ w'.cell? ⟨X, 3, none⟩ = some (.bool mo))) (by kernel_rfl) ?_ (fun hHeld => ?_)
          · exact ⟨bx0, bx1, bx2, bx3⟩
          generalize w2.drew = wd at *
          refine wpAnyH_take (i := 0) (oi := _) (v := .bool false) rfl (by kernel_rfl) (by kernel_rfl) (by kernel_rfl) (fun _ _ _ h => h) (Or.inl ⟨by rfl, ?_⟩) hHeld ?_
          · intro wq hSw
            try dsimp only at hSw
            go_simp
          try simp only [Act.put, List.getElem_toArray, List.getElem_cons_succ, List.getElem_cons_zero, List.setIfInBounds_toArray, List.set_cons_zero, List.set_cons_succ]
          refine wpAnyH_take (i := 1) (oi := _) (v := .bool true) rfl (by kernel_rfl) (by kernel_rfl) (by kernel_rfl) (fun _ _ _ h => h) (Or.inl ⟨by rfl, ?_⟩) hHeld ?_
          · intro wq hSw
            try dsimp only at hSw
            go_simp
          try simp only [Act.put, List.getElem_toArray, List.getElem_cons_succ, List.getElem_cons_zero, List.setIfInBounds_toArray, List.set_cons_zero, List.set_cons_succ]
          refine wpAnyH_take (i := 2) (oi := _) (v := .bool true) rfl (by kernel_rfl) (by kernel_rfl) (by kernel_rfl) (fun _ _ _ h => h) (Or.inl ⟨by rfl, ?_⟩) hHeld ?_
          · intro wq hSw
            try dsimp only at hSw
            go_simp
          try simp only [Act.put, List.getElem_toArray, List.getElem_cons_succ, List.getElem_cons_zero, List.setIfInBounds_toArray, List.set_cons_zero, List.set_cons_succ]
          refine wpAnyH_take (i := 4) (oi := _) (v := .int .i64 3) rfl (by kernel_rfl) (by kernel_rfl) (by kernel_rfl) (fun _ _ _ h => h) (Or.inl ⟨by rfl, ?_⟩) hHeld ?_
          · intro wq hSw
            try dsimp only at hSw
            go_simp
          try simp only [Act.put, List.getElem_toArray, List.getElem_cons_succ, List.getElem_cons_zero, List.setIfInBounds_toArray, List.set_cons_zero, List.set_cons_succ]
          refine wpAnyH_take (i := 7) (oi := _) (v := .agg #[.bool s, .bool B1, .bool B0, .bool mo]) rfl (by kernel_rfl) (by kernel_rfl) (by kernel_rfl) (fun _ _ _ h => h) (Or.inl ⟨by rfl, ?_⟩) hHeld ?_
          · intro wq hSw
            try dsimp only at hSw
            go_simp
          try simp only [Act.put, List.getElem_toArray, List.getElem_cons_succ, List.getElem_cons_zero, List.setIfInBounds_toArray, List.set_cons_zero, List.set_cons_succ]
          refine wpAnyH_ready (rs := [3]) (by kernel_rfl) (by simp) ?_
          refine AllReadyH.cons rfl (fun KK hK => ?_) AllReadyH.nil
          simp only [List.getElem_toArray, List.getElem_cons_succ, List.getElem_cons_zero]
          rw [if_pos (by rfl)]
          refine wps0 62 _ rfl in_roundings (roundings_impl _) ?_
          rintro e w3 ⟨rfl, k3⟩
          refine ⟨_, rfl, ?_⟩
          replace kw := kw.trans k3
          replace bx0 := k3.cell0 bx0
          replace bx1 := k3.cell0 bx1
          replace bx2 := k3.cell0 bx2
          replace bx3 := k3.cell0 bx3
          replace K := hide ((unhide K).trans k3)
          have z3 := k3.size
          clear k3
          clear hHeld
          refine hK.out _ _ ?_ (fun hHeld => ?_)
          · exact ⟨bx0, bx1, bx2, bx3⟩
          clear hK KK
          try simp only [Act.put, List.getElem_toArray, List.getElem_cons_succ, List.getElem_cons_zero, List.setIfInBounds_toArray, List.set_cons_zero, List.set_cons_succ]
          have hix := idx_r3
          have hfl := fld_r3
          refine wpAnyH_take (i := 5) (oi := _) (v := .agg #[.func (.func 85) #[] #[]]) rfl (by kernel_rfl) (by kernel_rfl) (by kernel_rfl) (fun _ _ _ h => h) (Or.inl ⟨by rfl, ?_⟩) hHeld ?_
          · intro wq hSw
            try dsimp only at hSw
            go_simp
          try simp only [Act.put, List.getElem_toArray, List.getElem_cons_succ, List.getElem_cons_zero, List.setIfInBounds_toArray, List.set_cons_zero, List.set_cons_succ]
          refine wpAnyH_take (i := 6) (oi := _) (v := .func (.func 85) #[] #[]) rfl (by kernel_rfl) (by kernel_rfl) (by kernel_rfl) (fun _ _ _ h => h) (Or.inl ⟨by rfl, ?_⟩) hHeld ?_
          · intro wq hSw
            try dsimp only at hSw
            go_simp
          try simp only [Act.put, List.getElem_toArray, List.getElem_cons_succ, List.getElem_cons_zero, List.setIfInBounds_toArray, List.set_cons_zero, List.set_cons_succ]
          refine wpAnyH_ready (rs := [8]) (by kernel_rfl) (by simp) ?_
          refine AllReadyH.cons rfl (fun KK hK => ?_) AllReadyH.nil
          simp only [List.getElem_toArray, List.getElem_cons_succ, List.getElem_cons_zero]
          rw [if_pos (by rfl)]
          refine wpv1 85 (.tmp 43) (.tmp 44) _ rfl rfl in_ups4 (exv s B1 B0 mo) rfl (ups4 s B1 B0 mo _) ?_
          rintro e w4 ⟨rfl, k4⟩
          refine ⟨_, rfl, ?_⟩
          replace kw := kw.trans k4
          replace bx0 := k4.cell0 bx0
          replace bx1 := k4.cell0 bx1
          replace bx2 := k4.cell0 bx2
          replace bx3 := k4.cell0 bx3
          replace K := hide ((unhide K).trans k4)
          have z4 := k4.size
          clear k4
          clear hHeld
          refine hK.out _ _ ?_ (fun hHeld => ?_)
          · exact ⟨bx0, bx1, bx2, bx3⟩
          clear hK KK
          try simp only [Act.put, List.getElem_toArray, List.getElem_cons_succ, List.getElem_cons_zero, List.setIfInBounds_toArray, List.set_cons_zero, List.set_cons_succ]
          rw [show upsB 3 s B1 B0 mo = UP from hup]
          refine wpAnyH_take (i := 9) (oi := _) (v := .bool UP) rfl (by kernel_rfl) (by kernel_rfl) (by kernel_rfl) (fun _ _ _ h => h) (Or.inl ⟨by rfl, ?_⟩) hHeld ?_
          · intro wq hSw
            try dsimp only at hSw
            go_simp
          try simp only [Act.put, List.getElem_toArray, List.getElem_cons_succ, List.getElem_cons_zero, List.setIfInBounds_toArray, List.set_cons_zero, List.set_cons_succ]
          refine wpAnyH_done (by kernel_rfl) ?_ _
          clear hHeld
          go_wp2_with fail
          go_meet
          exact ⟨rfl, kw⟩
        · skip
          refine wp_region_held_drew (S := (fun w' => w'.cell? ⟨X, 0, none⟩ = some (.bool s) ∧ w'.cell? ⟨X, 1, none⟩ = some (.bool B1) ∧ w'.cell? ⟨X, 2, none⟩ = some (.bool B0) ∧ w'.cell? ⟨X, 3, none⟩ = some (.bool mo))) (by kernel_rfl) ?_ (fun hHeld => ?_)
          · exact ⟨bx0, bx1, bx2, bx3⟩
          generalize w2.drew = wd at *
          refine wpAnyH_take (i := 0) (oi := _) (v := .bool false) rfl (by kernel_rfl) (by kernel_rfl) (by kernel_rfl) (fun _ _ _ h => h) (Or.inl ⟨by rfl, ?_⟩) hHeld ?_
          · intro wq hSw
            try dsimp only at hSw
            go_simp
          try simp only [Act.put, List.getElem_toArray, List.getElem_cons_succ, List.getElem_cons_zero, List.setIfInBounds_toArray, List.set_cons_zero, List.set_cons_succ]
          refine wpAnyH_take (i := 1) (oi := _) (v := .bool true) rfl (by kernel_rfl) (by kernel_rfl) (by kernel_rfl) (fun _ _ _ h => h) (Or.inl ⟨by rfl, ?_⟩) hHeld ?_
          · intro wq hSw
            try dsimp only at hSw
            go_simp
          try simp only [Act.put, List.getElem_toArray, List.getElem_cons_succ, List.getElem_cons_zero, List.setIfInBounds_toArray, List.set_cons_zero, List.set_cons_succ]
          refine wpAnyH_take (i := 2) (oi := _) (v := .bool true) rfl (by kernel_rfl) (by kernel_rfl) (by kernel_rfl) (fun _ _ _ h => h) (Or.inl ⟨by rfl, ?_⟩) hHeld ?_
          · intro wq hSw
            try dsimp only at hSw
            go_simp
          try simp only [Act.put, List.getElem_toArray, List.getElem_cons_succ, List.getElem_cons_zero, List.setIfInBounds_toArray, List.set_cons_zero, List.set_cons_succ]
          refine wpAnyH_take (i := 4) (oi := _) (v := .int .i64 4) rfl (by kernel_rfl) (by kernel_rfl) (by kernel_rfl) (fun _ _ _ h => h) (Or.inl ⟨by rfl, ?_⟩) hHeld ?_
          · intro wq hSw
            try dsimp only at hSw
            go_simp
          try simp only [Act.put, List.getElem_toArray, List.getElem_cons_succ, List.getElem_cons_zero, List.setIfInBounds_toArray, List.set_cons_zero, List.set_cons_succ]
          refine wpAnyH_take (i := 7) (oi := _) (v := .agg #[.bool s, .bool B1, .bool B0, .bool mo]) rfl (by kernel_rfl) (by kernel_rfl) (by kernel_rfl) (fun _ _ _ h => h) (Or.inl ⟨by rfl, ?_⟩) hHeld ?_
          · intro wq hSw
            try dsimp only at hSw
            go_simp
          try simp only [Act.put, List.getElem_toArray, List.getElem_cons_succ, List.getElem_cons_zero, List.setIfInBounds_toArray, List.set_cons_zero, List.set_cons_succ]
          refine wpAnyH_ready (rs := [3]) (by kernel_rfl) (by simp) ?_
          refine AllReadyH.cons rfl (fun KK hK => ?_) AllReadyH.nil
          simp only [List.getElem_toArray, List.getElem_cons_succ, List.getElem_cons_zero]
          rw [if_pos (by rfl)]
          refine wps0 62 _ rfl in_roundings (roundings_impl _) ?_
          rintro e w3 ⟨rfl, k3⟩
          refine ⟨_, rfl, ?_⟩
          replace kw := kw.trans k3
          replace bx0 := k3.cell0 bx0
          replace bx1 := k3.cell0 bx1
          replace bx2 := k3.cell0 bx2
          replace bx3 := k3.cell0 bx3
          replace K := hide ((unhide K).trans k3)
          have z3 := k3.size
          clear k3
          clear hHeld
          refine hK.out _ _ ?_ (fun hHeld => ?_)
          · exact ⟨bx0, bx1, bx2, bx3⟩
          clear hK KK
          try simp only [Act.put, List.getElem_toArray, List.getElem_cons_succ, List.getElem_cons_zero, List.setIfInBounds_toArray, List.set_cons_zero, List.set_cons_succ]
          have hix := idx_r4
          have hfl := fld_r4
          refine wpAnyH_take (i := 5) (oi := _) (v := .agg #[.func (.func 86) #[] #[]]) rfl (by kernel_rfl) (by kernel_rfl) (by kernel_rfl) (fun _ _ _ h => h) (Or.inl ⟨by rfl, ?_⟩) hHeld ?_
          · intro wq hSw
            try dsimp only at hSw
            go_simp
          try simp only [Act.put, List.getElem_toArray, List.getElem_cons_succ, List.getElem_cons_zero, List.setIfInBounds_toArray, List.set_cons_zero, List.set_cons_succ]
          refine wpAnyH_take (i := 6) (oi := _) (v := .func (.func 86) #[] #[]) rfl (by kernel_rfl) (by kernel_rfl) (by kernel_rfl) (fun _ _ _ h => h) (Or.inl ⟨by rfl, ?_⟩) hHeld ?_
          · intro wq hSw
            try dsimp only at hSw
            go_simp
          try simp only [Act.put, List.getElem_toArray, List.getElem_cons_succ, List.getElem_cons_zero, List.setIfInBounds_toArray, List.set_cons_zero, List.set_cons_succ]
          refine wpAnyH_ready (rs := [8]) (by kernel_rfl) (by simp) ?_
          refine AllReadyH.cons rfl (fun KK hK => ?_) AllReadyH.nil
          simp only [List.getElem_toArray, List.getElem_cons_succ, List.getElem_cons_zero]
          rw [if_pos (by rfl)]
          refine wpv1 86 (.tmp 43) (.tmp 44) _ rfl rfl in_ups5 (exv s B1 B0 mo) rfl (ups5 s B1 B0 mo _) ?_
          rintro e w4 ⟨rfl, k4⟩
          refine ⟨_, rfl, ?_⟩
          replace kw := kw.trans k4
          replace bx0 := k4.cell0 bx0
          replace bx1 := k4.cell0 bx1
          replace bx2 := k4.cell0 bx2
          replace bx3 := k4.cell0 bx3
          replace K := hide ((unhide K).trans k4)
          have z4 := k4.size
          clear k4
          clear hHeld
          refine hK.out _ _ ?_ (fun hHeld => ?_)
          · exact ⟨bx0, bx1, bx2, bx3⟩
          clear hK KK
          try simp only [Act.put, List.getElem_toArray, List.getElem_cons_succ, List.getElem_cons_zero, List.setIfInBounds_toArray, List.set_cons_zero, List.set_cons_succ]
          rw [show upsB 4 s B1 B0 mo = UP from hup]
          refine wpAnyH_take (i := 9) (oi := _) (v := .bool UP) rfl (by kernel_rfl) (by kernel_rfl) (by kernel_rfl) (fun _ _ _ h => h) (Or.inl ⟨by rfl, ?_⟩) hHeld ?_
          · intro wq hSw
            try dsimp only at hSw
            go_simp
          try simp only [Act.put, List.getElem_toArray, List.getElem_cons_succ, List.getElem_cons_zero, List.setIfInBounds_toArray, List.set_cons_zero, List.set_cons_succ]
          refine wpAnyH_done (by kernel_rfl) ?_ _
          clear hHeld
          go_wp2_with fail
          go_meet
          exact ⟨rfl, kw⟩
      · rw [hE] at HUP
        have hup := unhide HUP
        simp only [Bool.not_true, Bool.false_and] at hup
        subst hup
        clear HUP HEX
        have kd := (Kept.refl 0 0 w2).drew
        replace kw := kw.trans kd
        replace bx0 := kd.cell0 bx0
        replace bx1 := kd.cell0 bx1
        replace bx2 := kd.cell0 bx2
        replace bx3 := kd.cell0 bx3
        replace K := hide ((unhide K).trans kd)
        have z2 := kd.size
        clear kd
        refine wp_region_held_drew (S := (fun w' => w'.cell? ⟨X, 0, none⟩ = some (.bool s) ∧ w'.cell? ⟨X, 1, none⟩ = some (.bool B1) ∧ w'.cell? ⟨X, 2, none⟩ = some (.bool B0) ∧ w'.cell? ⟨X, 3, none⟩ = some (.bool mo))) (by kernel_rfl) ?_ (fun hHeld => ?_)
        · exact ⟨bx0, bx1, bx2, bx3⟩
        generalize w2.drew = wd at *
        refine wpAnyH_take (i := 0) (oi := _) (v := .bool true) rfl (by kernel_rfl) (by kernel_rfl) (by kernel_rfl) (fun _ _ _ h => h) (Or.inl ⟨by rfl, ?_⟩) hHeld ?_
        · intro wq hSw
          try dsimp only at hSw
          go_simp
        try simp only [Act.put, List.getElem_toArray, List.getElem_cons_succ, List.getElem_cons_zero, List.setIfInBounds_toArray, List.set_cons_zero, List.set_cons_succ]
        refine wpAnyH_take (i := 1) (oi := _) (v := .bool false) rfl (by kernel_rfl) (by kernel_rfl) (by kernel_rfl) (fun _ _ _ h => h) (Or.inl ⟨by rfl, ?_⟩) hHeld ?_
        · intro wq hSw
          try dsimp only at hSw
          go_simp
        try simp only [Act.put, List.getElem_toArray, List.getElem_cons_succ, List.getElem_cons_zero, List.setIfInBounds_toArray, List.set_cons_zero, List.set_cons_succ]
        refine wpAnyH_take (i := 2) (oi := _) (v := .bool false) rfl (by kernel_rfl) (by kernel_rfl) (by kernel_rfl) (fun _ _ _ h => h) (Or.inl ⟨by rfl, ?_⟩) hHeld ?_
        · intro wq hSw
          try dsimp only at hSw
          go_simp
        try simp only [Act.put, List.getElem_toArray, List.getElem_cons_succ, List.getElem_cons_zero, List.setIfInBounds_toArray, List.set_cons_zero, List.set_cons_succ]
        refine wpAnyH_take (i := 3) (v := undef) rfl (by kernel_rfl) (by kernel_rfl) (by kernel_rfl) (fun _ _ _ h => h) (Or.inr ⟨by rfl, rfl⟩) hHeld ?_
        try simp only [Act.put, List.getElem_toArray, List.getElem_cons_succ, List.getElem_cons_zero, List.setIfInBounds_toArray, List.set_cons_zero, List.set_cons_succ]
        refine wpAnyH_take (i := 4) (v := undef) rfl (by kernel_rfl) (by kernel_rfl) (by kernel_rfl) (fun _ _ _ h => h) (Or.inr ⟨by rfl, rfl⟩) hHeld ?_
        try simp only [Act.put, List.getElem_toArray, List.getElem_cons_succ, List.getElem_cons_zero, List.setIfInBounds_toArray, List.set_cons_zero, List.set_cons_succ]
        refine wpAnyH_take (i := 5) (v := undef) rfl (by kernel_rfl) (by kernel_rfl) (by kernel_rfl) (fun _ _ _ h => h) (Or.inr ⟨by rfl, rfl⟩) hHeld ?_
        try simp only [Act.put, List.getElem_toArray, List.getElem_cons_succ, List.getElem_cons_zero, List.setIfInBounds_toArray, List.set_cons_zero, List.set_cons_succ]
        refine wpAnyH_take (i := 6) (v := undef) rfl (by kernel_rfl) (by kernel_rfl) (by kernel_rfl) (fun _ _ _ h => h) (Or.inr ⟨by rfl, rfl⟩) hHeld ?_
        try simp only [Act.put, List.getElem_toArray, List.getElem_cons_succ, List.getElem_cons_zero, List.setIfInBounds_toArray, List.set_cons_zero, List.set_cons_succ]
        refine wpAnyH_take (i := 7) (v := undef) rfl (by kernel_rfl) (by kernel_rfl) (by kernel_rfl) (fun _ _ _ h => h) (Or.inr ⟨by rfl, rfl⟩) hHeld ?_
        try simp only [Act.put, List.getElem_toArray, List.getElem_cons_succ, List.getElem_cons_zero, List.setIfInBounds_toArray, List.set_cons_zero, List.set_cons_succ]
        refine wpAnyH_take (i := 8) (v := undef) rfl (by kernel_rfl) (by kernel_rfl) (by kernel_rfl) (fun _ _ _ h => h) (Or.inr ⟨by rfl, rfl⟩) hHeld ?_
        try simp only [Act.put, List.getElem_toArray, List.getElem_cons_succ, List.getElem_cons_zero, List.setIfInBounds_toArray, List.set_cons_zero, List.set_cons_succ]
        refine wpAnyH_take (i := 9) (oi := _) (v := .bool false) rfl (by kernel_rfl) (by kernel_rfl) (by kernel_rfl) (fun _ _ _ h => h) (Or.inl ⟨by rfl, ?_⟩) hHeld ?_
        · intro wq hSw
          try dsimp only at hSw
          go_simp
        try simp only [Act.put, List.getElem_toArray, List.getElem_cons_succ, List.getElem_cons_zero, List.setIfInBounds_toArray, List.set_cons_zero, List.set_cons_succ]
        refine wpAnyH_done (by kernel_rfl) ?_ _
        clear hHeld
        go_wp2_with fail
        go_meet
        exact ⟨rfl, kw⟩
    case rest =>
      obtain ⟨rfl, kx⟩ := hcut
      replace d := d.kept kx
      replace ex := ex.kept kx
      replace n2 := n2.kept kx
      replace MM := hide ((unhide MM).kept kx)
      replace qf0 := kx.loose0 (World.block_lt_of_cell? _ _ q0) qf0
      replace qf1 := kx.loose0 (World.block_lt_of_cell? _ _ q1) qf1
      replace qf2 := kx.loose0 (World.block_lt_of_cell? _ _ q2) qf2
      replace q0 := kx.cell0 q0
      replace q1 := kx.cell0 q1
      replace q2 := kx.cell0 q2
      have zx := kx.size
      clear kx bx0 bx1 bx2 bx3 HUP HEX
      cases UP
      · obtain ⟨LL, hLL⟩ : ∃ LL, limbs (V / 2) = LL := ⟨_, rfl⟩
        have HZ : Hid (LL = limbs (rndN mode.toNat s V mo)) := by show _ = _; rw [unhide HR, ← hLL]; simp
        rw [hLL] at n2
        clear hLL HR HV
        have cc0 := n2.cell
        have cc1 := d.1
        have cc2 := ex.1
        obtain ⟨a5, c5, hu⟩ := n2.form
        subst hu
        have ao := n2.own
        have ap : (Value.slice a5 LL.length c5).ownBlock ≠ some w.heap.size := fun e => by have h1 : v.ownBlock = some w.heap.size := (by rw [← o2]; exact e); have h2 := own _ h1; omega
        have hgR : ¬ g = w.heap.size := by omega
        have hgR' : ¬ w.heap.size = g := by omega
        have FIN : Hid (OwnA b (((wc.setCell ⟨w.heap.size, 0, none⟩ (.slice a5 LL.length c5)).setCell ⟨w.heap.size, 1, none⟩ (.bool s)).setCell ⟨w.heap.size, 2, none⟩ (.int .i64 low)) (.slice a5 LL.length c5) LL ∧ Mod (Own1 g v) w (((wc.setCell ⟨w.heap.size, 0, none⟩ (.slice a5 LL.length c5)).setCell ⟨w.heap.size, 1, none⟩ (.bool s)).setCell ⟨w.heap.size, 2, none⟩ (.int .i64 low))) :=
          ⟨((ao.aside ap _).aside ap _).aside ap _, Mod.set (S := Own1 g v) (Mod.set (S := Own1 g v) (Mod.set (S := Own1 g v) (unhide MM) (p := ⟨w.heap.size, 0, none⟩) (.inr (Nat.le_refl _)) _) (p := ⟨w.heap.size, 1, none⟩) (.inr (Nat.le_refl _)) _) (p := ⟨w.heap.size, 2, none⟩) (.inr (Nat.le_refl _)) _⟩
        have OO : Hid (∀ i, (Value.slice a5 LL.length c5).ownBlock = some i → v.ownBlock = some i ∨ w.heap.size ≤ i) := fun i e => .inl (by rw [← o2]; exact e)
        clear ao ap n2 d ex MM own
        go_wp2_with fail
        go_region
        go_wp2_with fail
        exact bodyPost_ret (v := .agg #[.slice a5 LL.length c5, .bool s, .int .i64 low]) (by simp [results, Tryd.results38, go_sem, q0, q1, q2]) rfl ⟨_, rfl, by rw [← unhide HZ]; exact (unhide FIN).1.kept (Kept.refl 0 0 _).drew, (unhide FIN).2.kept (Kept.refl 0 0 _).drew, unhide OO⟩
      · go_wp2_with fail
        refine (limbsOfInt_impl _ 1 (by omega)).mono ?_
        rintro e w3 ⟨v3, rfl, o3, k3⟩
        obtain ⟨L1, hL1⟩ : ∃ L, limbs (1 : Int).toNat = L := ⟨_, rfl⟩
        rw [hL1] at o3
        have nL1 : Nrm L1 := by rw [← hL1]; exact limbs_nrm _
        have vL1 : val L1 = 1 := by rw [← hL1, limbs_val]; rfl
        have lL1 : L1.length ≤ 1 := by rw [← hL1]; exact (limbs_length_le _ _).2 (by decide)
        clear hL1
        replace d := d.kept k3
        replace ex := ex.kept k3
        replace n2 := n2.kept k3
        replace MM := hide ((unhide MM).kept k3)
        replace qf0 := k3.loose0 (World.block_lt_of_cell? _ _ q0) qf0
        replace qf1 := k3.loose0 (World.block_lt_of_cell? _ _ q1) qf1
        replace qf2 := k3.loose0 (World.block_lt_of_cell? _ _ q2) qf2
        replace q0 := k3.cell0 q0
        replace q1 := k3.cell0 q1
        replace q2 := k3.cell0 q2
        have z3 := k3.size
        clear k3
        obtain ⟨a3, c3, hv3⟩ := own_slice o3
        subst hv3
        have n3 := Num.new (w := w3) 71 o3
        have k4 := (Kept.refl 0 0 w3).alloc (.cells #[.slice a3 L1.length c3] 71)
        have z4 : (w3.alloc (.cells #[.slice a3 L1.length c3] 71)).heap.size = w3.heap.size + 1 := by simp
        replace d := d.kept k4
        replace ex := ex.kept k4
        replace n2 := n2.kept k4
        replace MM := hide ((unhide MM).kept k4)
        replace qf0 := k4.loose0 (World.block_lt_of_cell? _ _ q0) qf0
        replace qf1 := k4.loose0 (World.block_lt_of_cell? _ _ q1) qf1
        replace qf2 := k4.loose0 (World.block_lt_of_cell? _ _ q2) qf2
        replace q0 := k4.cell0 q0
        replace q1 := k4.cell0 q1
        replace q2 := k4.cell0 q2
        have l3 := fun k e => n3.own.lt k e
        have lg3 := (n2.lt)
        clear k4 o3
        go_wp2_with fail
        generalize hW4 : w3.alloc (.cells #[.slice a3 L1.length c3] 71) = W4 at *
        have t2 : TwoA W4 (Own1 g v) b wc.heap.size W4 g w3.heap.size u2 (.slice a3 L1.length c3) (limbs (V / 2)) L1 := by
          have ho2 : ∀ i, u2.ownBlock = some i → v.ownBlock = some i := fun i e => by rw [← o2]; exact e
          refine ⟨n2, n3, by omega, fun e => by have := own _ (ho2 _ e); omega, fun e => by have := (l3 _ e).1; omega, fun i e e2 => by have := own _ (ho2 _ e); have := (l3 _ e2).1; omega, fun i e => .inl (.inr (ho2 _ e)), .inl rfl, Mod.refl _ _, SameSide.refl _ _, by omega⟩
        have n1lim : Nrm (limbs (V / 2)) := limbs_nrm _
        have hlen2 : (limbs (V / 2)).length ≤ 100000 := by rw [← unhide HV]; exact Nat.le_trans (limbs_len_le (Nat.div_le_self _ _)) (by rw [← nrm_limbs hn]; omega)
        refine (add_twoA t2 n1lim nL1 hlen2 (by omega)).mono ?_
        rintro e w5 ⟨⟨r5, rfl⟩, u5, t5⟩
        have eV : (val (limbs (V / 2)) + val L1).toNat = V / 2 + 1 := by rw [limbs_val, vL1]; omega
        rw [eV] at t5
        have n5 := t5.n1
        have m5 := t5.m
        have s5 := t5.sd
        have o5 := t5.o1
        clear t2 t5 n2 n3 n1lim hlen2 eV
        have nR5 : ¬ Own1 g v w.heap.size := fun e => e.elim (fun e => by omega) (fun e => by have := own _ e; omega)
        replace d := d.same s5
        replace ex := ex.tail s5.tail
        replace MM := hide (Mod.trans (unhide MM) m5)
        replace qf0 := m5.loose (a := ⟨w.heap.size, 0, none⟩) nR5 (World.block_lt_of_cell? _ _ q0) qf0
        replace qf1 := m5.loose (a := ⟨w.heap.size, 1, none⟩) nR5 (World.block_lt_of_cell? _ _ q1) qf1
        replace qf2 := m5.loose (a := ⟨w.heap.size, 2, none⟩) nR5 (World.block_lt_of_cell? _ _ q2) qf2
        replace q0 := m5.cell (a := ⟨w.heap.size, 0, none⟩) nR5 q0
        replace q1 := m5.cell (a := ⟨w.heap.size, 1, none⟩) nR5 q1
        replace q2 := m5.cell (a := ⟨w.heap.size, 2, none⟩) nR5 q2
        obtain ⟨LL, hLL⟩ : ∃ LL, limbs (V / 2 + 1) = LL := ⟨_, rfl⟩
        have HZ : Hid (LL = limbs (rndN mode.toNat s V mo)) := by show _ = _; rw [unhide HR, ← hLL]; simp
        rw [hLL] at n5
        clear hLL HR HV m5 s5 l3
        have cc0 := n5.cell
        have cc1 := d.1
        have cc2 := ex.1
        obtain ⟨a5, c5, hu⟩ := n5.form
        subst hu
        have ao := n5.own
        have ap : (Value.slice a5 LL.length c5).ownBlock ≠ some w.heap.size := fun e => (o5 _ e).elim nR5 (fun e => by omega)
        have hgR : ¬ g = w.heap.size := by omega
        have hgR' : ¬ w.heap.size = g := by omega
        have FIN : Hid (OwnA b (((w5.setCell ⟨w.heap.size, 0, none⟩ (.slice a5 LL.length c5)).setCell ⟨w.heap.size, 1, none⟩ (.bool s)).setCell ⟨w.heap.size, 2, none⟩ (.int .i64 low)) (.slice a5 LL.length c5) LL ∧ Mod (Own1 g v) w (((w5.setCell ⟨w.heap.size, 0, none⟩ (.slice a5 LL.length c5)).setCell ⟨w.heap.size, 1, none⟩ (.bool s)).setCell ⟨w.heap.size, 2, none⟩ (.int .i64 low))) :=
          ⟨((ao.aside ap _).aside ap _).aside ap _, Mod.set (S := Own1 g v) (Mod.set (S := Own1 g v) (Mod.set (S := Own1 g v) (unhide MM) (p := ⟨w.heap.size, 0, none⟩) (.inr (Nat.le_refl _)) _) (p := ⟨w.heap.size, 1, none⟩) (.inr (Nat.le_refl _)) _) (p := ⟨w.heap.size, 2, none⟩) (.inr (Nat.le_refl _)) _⟩
        have OO : Hid (∀ i, (Value.slice a5 LL.length c5).ownBlock = some i → v.ownBlock = some i ∨ w.heap.size ≤ i) := fun i e => (o5 _ e).elim (fun e2 => e2.elim (fun e3 => absurd (by rw [← e3]; exact e) n5.apart) .inl) (fun e2 => .inr (by omega))
        clear ao ap n5 d ex MM own
        go_wp2_with fail
        go_region
        go_wp2_with fail
        exact bodyPost_ret (v := .agg #[.slice a5 LL.length c5, .bool s, .int .i64 low]) (by simp [results, Tryd.results38, go_sem, q0, q1, q2]) rfl ⟨_, rfl, by rw [← unhide HZ]; exact (unhide FIN).1.kept (Kept.refl 0 0 _).drew, (unhide FIN).2.kept (Kept.refl 0 0 _).drew, unhide OO⟩

theorem rounded_impl {b g : Nat} {v : Value} {zs : List Int} {s mo : Bool} {low : Int} (w : World) (h : Wrk b w g v zs) (hn : Nrm zs) (nx : zs.length ≤ 90000) (d : Sd w g s) (ex : Ex w g low) (m : Mo w g mo) (hb : b ≤ w.heap.size) (mode : Int) (hm0 : 0 ≤ mode) (hm4 : mode ≤ 4) :
    Calls Tryd.prog 38 #[.pointer (some ⟨g, 0, none⟩), .int .i64 mode] w fun e w' => ∃ u, e = .returned (.agg #[u, .bool s, .int .i64 low]) ∧ OwnA b w' u (limbs (rndN mode.toNat s (val zs).toNat mo)) ∧ Mod (Own1 g v) w w' :=
  (rounded_own w h hn nx d ex m hb mode hm0 hm4).mono (fun e w' ⟨u, h1, h2, h3, _⟩ => ⟨u, h1, h2, h3⟩)

end Go.Proofs.YtlenocminckbkaaDoor

namespace Go.Proofs.YtlenocminckbkaaDoor
open Go.RowKit
set_option linter.unusedVariables false
set_option maxRecDepth 8000
set_option linter.unusedSimpArgs false

theorem bit_eq (n : Nat) : (((n % 2 : Nat) : Int) == 1) = decide (n % 2 = 1) := by
  rcases Nat.mod_two_eq_zero_or_one n with h | h <;> rw [h] <;> rfl
theorem sc_low (V K : Nat) (hK : 0 < K) : scN V (1 - (K : Int)) = V / 2 ^ (K - 1) ∧ scL V (1 - (K : Int)) = decide (V % 2 ^ (K - 1) ≠ 0) := by
  by_cases h1 : K = 1
  · subst h1
    have e : (1 : Int) - ((1 : Nat) : Int) = ((0 : Nat) : Int) := by decide
    rw [e, scN_up, scL_up]
    simp [Nat.mod_one]
  · have e : (1 : Int) - (K : Int) = -((K - 1 : Nat) : Int) := by omega
    rw [e, scN_down _ _ (by omega), scL_down _ _ (by omega)]
    exact ⟨rfl, rfl⟩
theorem rnd_low {V K : Nat} (hK : 0 < K) (hV : V % 2 = 1) (mode : Nat) (s : Bool) :
    rndX (scN V (1 - (K : Int))) (scL V (1 - (K : Int))) = false ∧
    rndN mode s (scN V (1 - (K : Int))) (scL V (1 - (K : Int))) = V / 2 ^ K + (if upsB mode s (decide (V / 2 ^ K % 2 = 1)) (decide (V / 2 ^ (K - 1) % 2 = 1)) (decide (V % 2 ^ (K - 1) ≠ 0)) = true then 1 else 0) := by
  obtain ⟨e1, e2⟩ := sc_low V K hK
  have hX : rndX (V / 2 ^ (K - 1)) (decide (V % 2 ^ (K - 1) ≠ 0)) = false := by
    unfold rndX
    by_cases h1 : K = 1
    · subst h1
      simp
      omega
    · have h2 : V % 2 ^ (K - 1) ≠ 0 := by
        intro h
        have h3 : 2 ^ (K - 1) ∣ V := Nat.dvd_of_mod_eq_zero h
        have h4 : 2 ∣ V := Nat.dvd_trans (by have := Nat.pow_dvd_pow 2 (show 1 ≤ K - 1 by omega); simpa using this) h3
        omega
      simp [h2]
  have hD : V / 2 ^ (K - 1) / 2 = V / 2 ^ K := by
    rw [Nat.div_div_eq_div_mul, ← Nat.pow_succ, show (K - 1).succ = K by omega]
  rw [e1, e2]
  refine ⟨hX, ?_⟩
  unfold rndN
  rw [hX, hD]
  simp only [Bool.not_false, Bool.true_and]
theorem rnd_high (V k : Nat) (mode : Nat) (s : Bool) : rndX (scN V ((k : Int) + 1)) (scL V ((k : Int) + 1)) = true ∧ rndN mode s (scN V ((k : Int) + 1)) (scL V ((k : Int) + 1)) = V * 2 ^ k := by
  have e : (k : Int) + 1 = ((k + 1 : Nat) : Int) := by omega
  rw [e, scN_up, scL_up]
  have hm : V * 2 ^ (k + 1) % 2 = 0 := by rw [Nat.pow_succ, ← Nat.mul_assoc]; omega
  have hd : V * 2 ^ (k + 1) / 2 = V * 2 ^ k := by rw [Nat.pow_succ, ← Nat.mul_assoc]; omega
  have hX : rndX (V * 2 ^ (k + 1)) false = true := by unfold rndX; simp [hm]
  refine ⟨hX, ?_⟩
  unfold rndN
  rw [hX, hd]
  simp
theorem rnd_zero (k : Int) (mode : Nat) (s : Bool) : rndX (scN 0 k) (scL 0 k) = true ∧ rndN mode s (scN 0 k) (scL 0 k) = 0 := by
  have e1 : scN 0 k = 0 := by unfold scN; split <;> simp
  have e2 : scL 0 k = false := by unfold scL; split <;> simp
  rw [e1, e2]
  have hX : rndX 0 false = true := rfl
  refine ⟨hX, ?_⟩
  unfold rndN
  rw [hX]
  simp
theorem wlm_rnd (s : Bool) (n : Nat) : wlm (wval s (limbs n)) = limbs n := by rw [wlm_wval s (limbs_lim _), limbs_val, Int.toNat_natCast]
theorem wn_int (m : Int) : WN (wsg m) (wlm m) := by
  refine ⟨wlm_nrm _, fun h => ?_⟩
  have h1 := limbs_pos m.natAbs
  unfold wsg at h
  have h2 : m < 0 := of_decide_eq_true h
  have h3 : 0 < m.natAbs := by omega
  rw [decide_eq_true h3] at h1
  exact of_decide_eq_true h1
/-- What a number becomes: its whole number, with its sign. -/
def rndM (mode : Nat) (s : Bool) (V : Nat) (k : Int) : Int := wval s (limbs (rndN mode s (scN V k) (scL V k)))
theorem wval_mul (s : Bool) (zs : List Int) (h : Lim zs) (n : Nat) : wval s (limbs ((val zs).toNat * n)) = wval s zs * n := by
  have h0 := val_nonneg h
  have e : (((val zs).toNat * n : Nat) : Int) = val zs * n := by rw [Int.natCast_mul]; congr 1; omega
  unfold wval
  rw [limbs_val, e]
  cases s <;> simp [Int.neg_mul]
theorem rnd_same {s : Bool} {zs : List Int} {x low : Int} (hn : WN s zs) (ho : zs ≠ [] → val zs % 2 = 1) (hz : zs = [] → x = 0) (h : zs = [] ∨ low ≤ x) (mode : Nat) :
    rndX (scN (val zs).toNat (x - (low - 1))) (scL (val zs).toNat (x - (low - 1))) = true ∧ wsg (rndM mode s (val zs).toNat (x - (low - 1))) = s ∧ dlm (rndM mode s (val zs).toNat (x - (low - 1))) = zs ∧ dex (rndM mode s (val zs).toNat (x - (low - 1))) low = x := by
  by_cases h0 : zs = []
  · subst h0
    have hs : s = false := by
      cases hs : s with
      | false => rfl
      | true => have := hn.2 hs; simp at this
    obtain ⟨r1, r2⟩ := rnd_zero (x - (low - 1)) mode s
    have e0 : (val []).toNat = 0 := rfl
    have hM : rndM mode s 0 (x - (low - 1)) = 0 := by unfold rndM; rw [r2, limbs_zero, wval_nil]
    rw [e0, hM, hs, hz rfl]
    exact ⟨by rw [hz rfl] at r1; exact r1, rfl, dlm_zero, rfl⟩
  · have hle : low ≤ x := h.resolve_left h0
    obtain ⟨k, hk⟩ : ∃ k : Nat, x - low = k := ⟨(x - low).toNat, by omega⟩
    have e1 : x - (low - 1) = (k : Int) + 1 := by omega
    obtain ⟨r1, r2⟩ := rnd_high (val zs).toNat k mode s
    have hM : rndM mode s (val zs).toNat (x - (low - 1)) = wval s zs * 2 ^ k := by
      unfold rndM
      rw [e1, r2, wval_mul s zs hn.1.1]
      simp
    have hv0 := val_nonneg hn.1.1
    have hodd : (val zs).toNat % 2 = 1 := by have := ho h0; omega
    obtain ⟨d1, d2, d3⟩ := d_shift (wval s zs) x k
    have ex : x - (k : Int) = low := by omega
    rw [ex] at d2
    have ha := wval_abs (s := s) hn.1.1
    have htz : tz (val zs).toNat = 0 := tz_odd hodd
    have hne : wval s zs ≠ 0 := by intro e; rw [e] at ha; simp at ha; omega
    rw [hM, e1]
    refine ⟨r1, by rw [d3, wn_sign hn], ?_, ?_⟩
    · rw [d1]
      unfold dlm
      rw [ha, htz, Nat.pow_zero, Nat.div_one, ← nrm_limbs hn.1]
    · rw [d2]
      unfold dex
      rw [if_neg hne, ha, htz]
      simp

set_option maxHeartbeats 2000000 in
theorem ups_spec {bw : Bool} {lo hi : Nat} {v : Value} {zs : List Int} (s : Bool) (w : World) (r : Row .i64 bw lo hi w v zs) (hn : Nrm zs) (hne : zs ≠ []) (hl : zs.length ≤ 100000) (KX : Nat) (hK : 0 < KX) (hK2 : KX ≤ 1000000) (mode : Int) (hm0 : 0 ≤ mode) (hm4 : mode ≤ 4) :
    Calls Tryd.prog 48 #[.bool s, .agg #[v], .int .i64 (KX : Int), .int .i64 mode] w fun e w' => e = .returned (.bool (upsB mode.toNat s (decide ((val zs).toNat / 2 ^ KX % 2 = 1)) (decide ((val zs).toNat / 2 ^ (KX - 1) % 2 = 1)) (decide ((val zs).toNat % 2 ^ (KX - 1) ≠ 0)))) ∧ Kept 0 0 w w' := by
  have hv0 := val_nonneg hn.1
  have hV0 : (val zs).toNat ≠ 0 := fun e => hne (nrm_nil hn (by omega))
  obtain ⟨V, hV⟩ : ∃ V, (val zs).toNat = V := ⟨_, rfl⟩
  rw [hV]
  rw [hV] at hV0
  obtain ⟨BO, hBO⟩ : ∃ y, decide (V / 2 ^ KX % 2 = 1) = y := ⟨_, rfl⟩
  obtain ⟨BH, hBH⟩ : ∃ y, decide (V / 2 ^ (KX - 1) % 2 = 1) = y := ⟨_, rfl⟩
  obtain ⟨BM, hBM⟩ : ∃ y, decide (V % 2 ^ (KX - 1) ≠ 0) = y := ⟨_, rfl⟩
  rw [hBO, hBH, hBM]
  obtain ⟨cH, hcH⟩ : ∃ c : Int, (if (KX : Int) - 1 < 0 then (0 : Int) else ((V / 2 ^ ((KX : Int) - 1).toNat % 2 : Nat) : Int)) = c := ⟨_, rfl⟩
  obtain ⟨cO, hcO⟩ : ∃ c : Int, (if (KX : Int) < 0 then (0 : Int) else ((V / 2 ^ (KX : Int).toNat % 2 : Nat) : Int)) = c := ⟨_, rfl⟩
  have hbH : (cH == (1 : Int)) = BH := by
    rw [← hcH, ← hBH, if_neg (by omega), show ((KX : Int) - 1).toNat = KX - 1 by omega, bit_eq]
  have hbO : (cO == (1 : Int)) = BO := by
    rw [← hcO, ← hBO, if_neg (by omega), Int.toNat_natCast, bit_eq]
  have hw1 : IntKind.i64.wrap ((KX : Int) - 1) = (KX : Int) - 1 := w64 _ (by omega) (by omega)
  have HV := hide hV
  have HCH := hide hcH
  have HCO := hide hcO
  have HBM := hide hBM
  clear hV hBO hBH hBM hcH hcO
  have k0 : Kept 0 0 w (w.alloc (.cells #[v] 44)) := ((Kept.refl 0 0 w).alloc (.cells #[v] 44))
  have p0 : (w.alloc (.cells #[v] 44)).cell? ⟨w.heap.size, 0, none⟩ = some (v) := new_cell2 _ _ _ _ _ _ (by simp) rfl
  replace r := r.kept k0 (by omega)
  have s0 : (w.alloc (.cells #[v] 44)).heap.size = w.heap.size + 1 := by simp
  obtain ⟨a, c, hv⟩ := Row.form' r
  subst hv
  have K := hide (k0)
  clear k0
  have S0 := hide s0
  clear s0
  go_enter Tryd.func48, Tryd.ntmps48
  go_wp2_with fail
  generalize (w.alloc (.cells #[.slice a zs.length c] 44)) = W at *
  have hbt := bit_spec _ r hn.1 ((KX : Int) - 1) (by omega) (by omega)
  rw [unhide HV, unhide HCH] at hbt
  refine (hbt).mono ?_
  rintro e w1 ⟨rfl, k1⟩
  replace r := r.kept k1 (.inr (.inr (Nat.le_refl 0)))
  replace p0 := k1.cell0 p0
  replace K := hide ((unhide K).trans k1)
  have z2 := k1.size
  clear k1
  clear hbt
  go_wp2_with fail
  have htr := trail_spec _ r hn.1 (by omega)
  refine (htr).mono ?_
  rintro e w3 ⟨t, rfl, ht, k3⟩
  replace r := r.kept k3 (.inr (.inr (Nat.le_refl 0)))
  replace p0 := k3.cell0 p0
  replace K := hide ((unhide K).trans k3)
  have z4 := k3.size
  clear k3
  clear htr
  rw [unhide HV] at ht
  have hlt := lost_trail ht hV0 (KX - 1)
  rw [unhide HBM] at hlt
  have hbm : decide ((t : Int) < (KX : Int) - 1) = BM := by rw [← hlt]; exact decide_eq_decide.2 (by omega)
  clear ht hlt HBM HCH
  obtain rfl | rfl | rfl | rfl | rfl : mode = 0 ∨ mode = 1 ∨ mode = 2 ∨ mode = 3 ∨ mode = 4 := by omega
  · cases BH
    · clear r HCO
      go_wp2_with fail
      go_ret
      exact ⟨rfl, unhide K⟩
    · cases BM
      · go_wp2_with fail
        have hbt := bit_spec _ r hn.1 (KX : Int) (by omega) (by omega)
        rw [unhide HV, unhide HCO] at hbt
        refine (hbt).mono ?_
        rintro e w5 ⟨rfl, k5⟩
        replace r := r.kept k5 (.inr (.inr (Nat.le_refl 0)))
        replace p0 := k5.cell0 p0
        replace K := hide ((unhide K).trans k5)
        have z6 := k5.size
        clear k5
        clear hbt r HCO
        go_wp2_with fail
        go_ret
        exact ⟨by simp [upsB], unhide K⟩
      · clear r HCO
        go_wp2_with fail
        go_ret
        exact ⟨by simp [upsB], unhide K⟩
  · clear r HCO
    go_wp2_with fail
    go_ret
    exact ⟨by first | rfl | simp [upsB], unhide K⟩
  · clear r HCO
    go_wp2_with fail
    go_ret
    exact ⟨by first | rfl | simp [upsB], unhide K⟩
  · clear r HCO
    go_wp2_with fail
    go_ret
    exact ⟨by first | rfl | simp [upsB], unhide K⟩
  · clear r HCO
    go_wp2_with fail
    go_ret
    exact ⟨by first | rfl | simp [upsB], unhide K⟩

theorem in_l4ups : ∀ (w : World) (args : Array Value), (callFunc 48 args).run Tryd.prog w = .ok (.enter 48 args) w := enters Tryd.func48 (by decide) (fun h => by cases h)

theorem in_l3make_r : ∀ (w : World) (args : Array Value), (callFunc 52 args).run Tryd.prog w = .ok (.enter 52 args) w := enters Tryd.func52 (by decide) (fun h => by cases h)

theorem in_l4make_r : ∀ (w : World) (args : Array Value), (callFunc 51 args).run Tryd.prog w = .ok (.enter 51 args) w := enters Tryd.func51 (by decide) (fun h => by cases h)

theorem in_l2of_r : ∀ (w : World) (args : Array Value), (callFunc 50 args).run Tryd.prog w = .ok (.enter 50 args) w := enters Tryd.func50 (by decide) (fun h => by cases h)

theorem in_l2add_r : ∀ (w : World) (args : Array Value), (callFunc 49 args).run Tryd.prog w = .ok (.enter 49 args) w := enters Tryd.func49 (by decide) (fun h => by cases h)

theorem limbs_succ_len (zs : List Int) (h : Nrm zs) : (limbs ((val zs).toNat + 1)).length ≤ zs.length + 1 := by
  have h1 := val_lt h.1
  have h2 := val_nonneg h.1
  refine (limbs_length_le _ _).2 ?_
  have e : (65536 : Int) ^ (zs.length + 1) = 65536 ^ zs.length * 65536 := Int.pow_succ _ _
  have e2 : (0 : Int) < 65536 ^ zs.length := Int.pow_pos (by decide)
  rw [e]
  generalize (65536 : Int) ^ zs.length = P at *
  omega

set_option maxHeartbeats 4000000 in
theorem round4_two {bw : Bool} {lo hi : Nat} {v : Value} {zs : List Int} (s : Bool) (x low : Int) (hx0 : -200000 ≤ x) (hx1 : x ≤ 200000) (hl0 : -200000 ≤ low) (hl1 : low ≤ 200000) (w : World) (r : Row .i64 bw lo hi w v zs) (hn : WN s zs) (ho : zs ≠ [] → val zs % 2 = 1) (hz : zs = [] → x = 0) (hl : zs.length ≤ 40000) (mode : Int) (hm0 : 0 ≤ mode) (hm4 : mode ≤ 4) :
    Calls Tryd.prog 28 #[.agg #[.bool s, v, .int .i64 x], .int .i64 low, .int .i64 mode] w fun e w' => ∃ v', e = .returned (.tuple #[.agg #[.bool (wsg (rndM mode.toNat s (val zs).toNat (x - (low - 1)))), v', .int .i64 (dex (rndM mode.toNat s (val zs).toNat (x - (low - 1))) low)], .bool (rndX (scN (val zs).toNat (x - (low - 1))) (scL (val zs).toNat (x - (low - 1))))]) ∧ (Row .i64 bw lo hi w' v' (dlm (rndM mode.toNat s (val zs).toNat (x - (low - 1)))) ∨ Row .i64 true w.heap.size w'.heap.size w' v' (dlm (rndM mode.toNat s (val zs).toNat (x - (low - 1))))) ∧ Kept 0 0 w w' := by
  have r0 := r
  obtain ⟨MM, hMM⟩ : ∃ y, rndM mode.toNat s (val zs).toNat (x - (low - 1)) = y := ⟨_, rfl⟩
  obtain ⟨XX, hXX⟩ : ∃ y, rndX (scN (val zs).toNat (x - (low - 1))) (scL (val zs).toNat (x - (low - 1))) = y := ⟨_, rfl⟩
  rw [hMM, hXX]
  have HMM := hide hMM
  have HXX := hide hXX
  clear hMM hXX
  have k0 : Kept 0 0 w ((w.alloc (.cells #[.bool s, v, .int .i64 x] 48)).alloc (.cells #[.bool false, .slice none 0 0, .int .i64 0] 48)) := (((Kept.refl 0 0 w).alloc (.cells #[.bool s, v, .int .i64 x] 48)).alloc (.cells #[.bool false, .slice none 0 0, .int .i64 0] 48))
  have p0 : ((w.alloc (.cells #[.bool s, v, .int .i64 x] 48)).alloc (.cells #[.bool false, .slice none 0 0, .int .i64 0] 48)).cell? ⟨w.heap.size, 0, none⟩ = some (.bool s) := old_cell _ (new_cell2 _ _ _ _ _ _ (by simp) rfl)
  have p1 : ((w.alloc (.cells #[.bool s, v, .int .i64 x] 48)).alloc (.cells #[.bool false, .slice none 0 0, .int .i64 0] 48)).cell? ⟨w.heap.size, 1, none⟩ = some (v) := old_cell _ (new_cell2 _ _ _ _ _ _ (by simp) rfl)
  have p2 : ((w.alloc (.cells #[.bool s, v, .int .i64 x] 48)).alloc (.cells #[.bool false, .slice none 0 0, .int .i64 0] 48)).cell? ⟨w.heap.size, 2, none⟩ = some (.int .i64 x) := old_cell _ (new_cell2 _ _ _ _ _ _ (by simp) rfl)
  have q0 : ((w.alloc (.cells #[.bool s, v, .int .i64 x] 48)).alloc (.cells #[.bool false, .slice none 0 0, .int .i64 0] 48)).cell? ⟨w.heap.size + 1, 0, none⟩ = some (.bool false) := new_cell2 _ _ _ _ _ _ (by simp) rfl
  have qf0 : ((w.alloc (.cells #[.bool s, v, .int .i64 x] 48)).alloc (.cells #[.bool false, .slice none 0 0, .int .i64 0] 48)).frozen? ⟨w.heap.size + 1, 0, none⟩ = false := new_loose2 _ _ _ _ _ (by simp)
  have q1 : ((w.alloc (.cells #[.bool s, v, .int .i64 x] 48)).alloc (.cells #[.bool false, .slice none 0 0, .int .i64 0] 48)).cell? ⟨w.heap.size + 1, 1, none⟩ = some (.slice none 0 0) := new_cell2 _ _ _ _ _ _ (by simp) rfl
  have qf1 : ((w.alloc (.cells #[.bool s, v, .int .i64 x] 48)).alloc (.cells #[.bool false, .slice none 0 0, .int .i64 0] 48)).frozen? ⟨w.heap.size + 1, 1, none⟩ = false := new_loose2 _ _ _ _ _ (by simp)
  have q2 : ((w.alloc (.cells #[.bool s, v, .int .i64 x] 48)).alloc (.cells #[.bool false, .slice none 0 0, .int .i64 0] 48)).cell? ⟨w.heap.size + 1, 2, none⟩ = some (.int .i64 0) := new_cell2 _ _ _ _ _ _ (by simp) rfl
  have qf2 : ((w.alloc (.cells #[.bool s, v, .int .i64 x] 48)).alloc (.cells #[.bool false, .slice none 0 0, .int .i64 0] 48)).frozen? ⟨w.heap.size + 1, 2, none⟩ = false := new_loose2 _ _ _ _ _ (by simp)
  replace r := r.kept k0 (by omega)
  have s0 : ((w.alloc (.cells #[.bool s, v, .int .i64 x] 48)).alloc (.cells #[.bool false, .slice none 0 0, .int .i64 0] 48)).heap.size = w.heap.size + 2 := by simp
  obtain ⟨a, c, hv⟩ := Row.form' r
  subst hv
  have K := hide (k0)
  clear k0
  have S0 := hide s0
  clear s0
  go_enter Tryd.func28, Tryd.ntmps28
  by_cases h0 : zs = []
  · have hb0 : ((zs.length : Int) == 0) = true := by rw [h0]; rfl
    obtain ⟨g1, g2, g3, g4⟩ := rnd_same hn ho hz (.inl h0) (low := low) mode.toNat
    rw [unhide HMM] at g2 g3 g4
    rw [unhide HXX] at g1
    have FF : Hid (XX = true ∧ wsg MM = s ∧ dlm MM = zs ∧ dex MM low = x) := ⟨g1, g2, g3, g4⟩
    clear g1 g2 g3 g4 hn ho hz HMM HXX
    clear h0
    have KF := hide (((Kept.refl 0 0 w).alloc (.cells #[.bool s, .slice a zs.length c, .int .i64 x] 48)).alloc (.cells #[.bool s, .slice a zs.length c, .int .i64 x] 48))
    have RF := hide (r0.kept (unhide KF) (by omega))
    clear r
    go_wp2_with fail
    exact bodyPost_ret (v := .tuple #[.agg #[.bool s, .slice a zs.length c, .int .i64 x], .bool true]) (by simp [results, Tryd.results28, go_sem, q0, q1, q2]) rfl ⟨_, by rw [(unhide FF).1, (unhide FF).2.1, (unhide FF).2.2.2], by rw [(unhide FF).2.2.1]; exact .inl (unhide RF), unhide KF⟩
  have hlen : 0 < zs.length := List.length_pos_iff.2 h0
  have hb0 : ((zs.length : Int) == 0) = false := beq_eq_false_iff_ne.2 (by omega)
  by_cases hle : low ≤ x
  · obtain ⟨g1, g2, g3, g4⟩ := rnd_same hn ho hz (.inr hle) (low := low) mode.toNat
    rw [unhide HMM] at g2 g3 g4
    rw [unhide HXX] at g1
    have FF : Hid (XX = true ∧ wsg MM = s ∧ dlm MM = zs ∧ dex MM low = x) := ⟨g1, g2, g3, g4⟩
    clear g1 g2 g3 g4 hn ho hz HMM HXX
    have KF := hide (((Kept.refl 0 0 w).alloc (.cells #[.bool s, .slice a zs.length c, .int .i64 x] 48)).alloc (.cells #[.bool s, .slice a zs.length c, .int .i64 x] 48))
    have RF := hide (r0.kept (unhide KF) (by omega))
    clear r
    go_wp2_with fail
    exact bodyPost_ret (v := .tuple #[.agg #[.bool s, .slice a zs.length c, .int .i64 x], .bool true]) (by simp [results, Tryd.results28, go_sem, q0, q1, q2]) rfl ⟨_, by rw [(unhide FF).1, (unhide FF).2.1, (unhide FF).2.2.2], by rw [(unhide FF).2.2.1]; exact .inl (unhide RF), unhide KF⟩
  obtain ⟨KK, hKK⟩ : ∃ K : Nat, low - x = K := ⟨(low - x).toNat, by omega⟩
  have hK0 : 0 < KK := by omega
  have hKb : KK ≤ 400000 := by omega
  have hK63 : (KK : Int) ≤ 9223372036854775807 := by omega
  have hwk : IntKind.i64.wrap (low - x) = (KK : Int) := by rw [w64 _ (by omega) (by omega)]; exact hKK
  have hv0 := val_nonneg hn.1.1
  have hodd : (val zs).toNat % 2 = 1 := by have := ho h0; omega
  have ek : x - (low - 1) = 1 - (KK : Int) := by omega
  rw [ek] at HMM HXX
  obtain ⟨f1, f2⟩ := rnd_low hK0 hodd mode.toNat s
  rw [f1] at HXX
  have hXX := unhide HXX
  subst hXX
  have hMM : wval s (limbs (rndN mode.toNat s (scN (val zs).toNat (1 - (KK : Int))) (scL (val zs).toNat (1 - (KK : Int))))) = MM := unhide HMM
  rw [f2] at hMM
  obtain ⟨UP, hUP⟩ : ∃ y, upsB mode.toNat s (decide ((val zs).toNat / 2 ^ KK % 2 = 1)) (decide ((val zs).toNat / 2 ^ (KK - 1) % 2 = 1)) (decide ((val zs).toNat % 2 ^ (KK - 1) ≠ 0)) = y := ⟨_, rfl⟩
  rw [hUP] at hMM
  have HM2 := hide hMM
  have HUP := hide hUP
  clear f1 f2 hMM HMM HXX hUP hodd ek hKK
  go_wp2_with fail
  generalize ((w.alloc (.cells #[.bool s, .slice a zs.length c, .int .i64 x] 48)).alloc (.cells #[.bool false, .slice none 0 0, .int .i64 0] 48)) = W at *
  refine (shr_spec _ r hn.1.1 (by omega) KK hK63).mono ?_
  rintro e w1 ⟨v3, rfl, r3, k1⟩
  replace r := r.kept k1 (.inr (.inr (Nat.le_refl 0)))
  replace qf0 := k1.loose0 (World.block_lt_of_cell? _ _ q0) qf0
  replace qf1 := k1.loose0 (World.block_lt_of_cell? _ _ q1) qf1
  replace qf2 := k1.loose0 (World.block_lt_of_cell? _ _ q2) qf2
  replace p0 := k1.cell0 p0
  replace p1 := k1.cell0 p1
  replace p2 := k1.cell0 p2
  replace q0 := k1.cell0 q0
  replace q1 := k1.cell0 q1
  replace q2 := k1.cell0 q2
  replace K := hide ((unhide K).trans k1)
  have z2 := k1.size
  clear k1
  obtain ⟨QQ, hQQ⟩ : ∃ y, limbs ((val zs).toNat / 2 ^ KK) = y := ⟨_, rfl⟩
  rw [hQQ] at r3
  have HQ := hide hQQ
  clear hQQ
  obtain ⟨a3, c3, hv⟩ := Row.form' r3
  subst hv
  have kn := (Kept.refl 0 0 w1).alloc (.cells #[.slice a3 QQ.length c3] 44)
  have y0 : (w1.alloc (.cells #[.slice a3 QQ.length c3] 44)).cell? ⟨w1.heap.size, 0, none⟩ = some (.slice a3 QQ.length c3) := new_cell2 _ _ _ _ _ _ rfl rfl
  have yf0 : (w1.alloc (.cells #[.slice a3 QQ.length c3] 44)).frozen? ⟨w1.heap.size, 0, none⟩ = false := new_loose2 _ _ _ _ _ rfl
  replace r := r.kept kn (.inr (.inr (Nat.le_refl 0)))
  replace r3 := r3.kept kn (.inr (.inr (Nat.le_refl 0)))
  replace qf0 := kn.loose0 (World.block_lt_of_cell? _ _ q0) qf0
  replace qf1 := kn.loose0 (World.block_lt_of_cell? _ _ q1) qf1
  replace qf2 := kn.loose0 (World.block_lt_of_cell? _ _ q2) qf2
  replace p0 := kn.cell0 p0
  replace p1 := kn.cell0 p1
  replace p2 := kn.cell0 p2
  replace q0 := kn.cell0 q0
  replace q1 := kn.cell0 q1
  replace q2 := kn.cell0 q2
  replace K := hide ((unhide K).trans kn)
  have z3 := kn.size
  clear kn
  have zy : w1.heap.size < (w1.alloc (.cells #[.slice a3 QQ.length c3] 44)).heap.size := by simp
  go_wp2_with fail
  generalize w1.alloc (.cells #[.slice a3 QQ.length c3] 44) = W5 at *
  have hup := ups_spec s _ r hn.1 h0 (by omega) KK hK0 (Nat.le_trans hKb (by decide)) mode hm0 hm4
  rw [unhide HUP] at hup
  refine (hup).mono ?_
  rintro e w4 ⟨rfl, k4⟩
  replace r := r.kept k4 (.inr (.inr (Nat.le_refl 0)))
  replace r3 := r3.kept k4 (.inr (.inr (Nat.le_refl 0)))
  replace qf0 := k4.loose0 (World.block_lt_of_cell? _ _ q0) qf0
  replace qf1 := k4.loose0 (World.block_lt_of_cell? _ _ q1) qf1
  replace qf2 := k4.loose0 (World.block_lt_of_cell? _ _ q2) qf2
  replace yf0 := k4.loose0 (World.block_lt_of_cell? _ _ y0) yf0
  replace p0 := k4.cell0 p0
  replace p1 := k4.cell0 p1
  replace p2 := k4.cell0 p2
  replace q0 := k4.cell0 q0
  replace q1 := k4.cell0 q1
  replace q2 := k4.cell0 q2
  replace y0 := k4.cell0 y0
  replace K := hide ((unhide K).trans k4)
  have z5 := k4.size
  clear k4
  clear hup HUP
  clear r
  have lQ : Lim QQ := by rw [← unhide HQ]; exact limbs_lim _
  have nQ : QQ.length ≤ zs.length := by have hq := limbs_len_le (Nat.div_le_self (val zs).toNat (2 ^ KK)); rw [← nrm_limbs hn.1] at hq; rw [← unhide HQ]; exact hq
  cases UP
  · have N7 : Hid ((wlm MM).length ≤ 50000) := by show _ ≤ _; rw [← unhide HM2, wlm_rnd]; simp only [Bool.false_eq_true, if_false, Nat.add_zero]; rw [unhide HQ]; omega
    go_wp2_with fail
    have hnx : Nrm QQ := by rw [← unhide HQ]; exact limbs_nrm _
    refine (make_any s _ r3 hnx (by omega)).mono ?_
    rintro e w6 ⟨v7, rfl, r7, k6⟩
    replace r3 := r3.kept k6 (.inr (.inr (Nat.le_refl 0)))
    replace qf0 := k6.loose0 (World.block_lt_of_cell? _ _ q0) qf0
    replace qf1 := k6.loose0 (World.block_lt_of_cell? _ _ q1) qf1
    replace qf2 := k6.loose0 (World.block_lt_of_cell? _ _ q2) qf2
    replace yf0 := k6.loose0 (World.block_lt_of_cell? _ _ y0) yf0
    replace p0 := k6.cell0 p0
    replace p1 := k6.cell0 p1
    replace p2 := k6.cell0 p2
    replace q0 := k6.cell0 q0
    replace q1 := k6.cell0 q1
    replace q2 := k6.cell0 q2
    replace y0 := k6.cell0 y0
    replace K := hide ((unhide K).trans k6)
    have z7 := k6.size
    clear k6
    obtain ⟨M7, hM7⟩ : ∃ y, wval s QQ = y := ⟨_, rfl⟩
    rw [hM7] at r7
    rw [hM7]
    have e7 : M7 = MM := by rw [← hM7, ← unhide HM2]; rw [← unhide HQ]; simp
    subst e7
    clear hM7 HM2
    have w7 : WN (wsg M7) (wlm M7) := wn_int M7
    have n7 : (wlm M7).length ≤ 50000 := unhide N7
    obtain ⟨a7, c7, hv⟩ := Row.form' r7
    subst hv
    go_wp2_with fail
    refine (make4_spec (wsg M7) low M7 (wval_int M7) (by omega) (by omega) _ r7 w7 n7).mono ?_
    rintro e w8 ⟨v8, rfl, r8, k8⟩
    replace r3 := r3.kept k8 (.inr (.inr (Nat.le_refl 0)))
    replace r7 := r7.kept k8 (.inr (.inr (Nat.le_refl 0)))
    replace qf0 := k8.loose0 (World.block_lt_of_cell? _ _ q0) qf0
    replace qf1 := k8.loose0 (World.block_lt_of_cell? _ _ q1) qf1
    replace qf2 := k8.loose0 (World.block_lt_of_cell? _ _ q2) qf2
    replace yf0 := k8.loose0 (World.block_lt_of_cell? _ _ y0) yf0
    replace p0 := k8.cell0 p0
    replace p1 := k8.cell0 p1
    replace p2 := k8.cell0 p2
    replace q0 := k8.cell0 q0
    replace q1 := k8.cell0 q1
    replace q2 := k8.cell0 q2
    replace y0 := k8.cell0 y0
    replace K := hide ((unhide K).trans k8)
    have z9 := k8.size
    clear k8
    obtain ⟨G2, hG2⟩ : ∃ y, dlm M7 = y := ⟨_, rfl⟩
    rw [hG2] at r8
    have HG2 := hide hG2
    clear hG2
    obtain ⟨a8, c8, hv⟩ := Row.form' r8
    subst hv
    obtain ⟨G1, hG1⟩ : ∃ y, wsg M7 = y := ⟨_, rfl⟩
    obtain ⟨G3, hG3⟩ : ∃ y, dex M7 low = y := ⟨_, rfl⟩
    rw [hG1, hG3]
    have HG1 := hide hG1
    have HG3 := hide hG3
    clear hG1 hG3
    have KF := hide ((((unhide K).setNew (p := ⟨w.heap.size + 1, 0, none⟩) (by simp) (.bool G1)).setNew (p := ⟨w.heap.size + 1, 1, none⟩) (by simp) (.slice a8 G2.length c8)).setNew (p := ⟨w.heap.size + 1, 2, none⟩) (by simp) (.int .i64 G3))
    have RF := hide ((((r8.set_other (p := ⟨w.heap.size + 1, 0, none⟩) (.inl (by have := unhide S0; dsimp only; omega)) (.bool G1)).set_other (p := ⟨w.heap.size + 1, 1, none⟩) (.inl (by have := unhide S0; dsimp only; omega)) (.slice a8 G2.length c8)).set_other (p := ⟨w.heap.size + 1, 2, none⟩) (.inl (by have := unhide S0; dsimp only; omega)) (.int .i64 G3)).tight.wider (lo' := w.heap.size) (by have := unhide S0; omega) (Nat.le_refl _))
    clear r3 r7 r8 K
    go_wp2_with fail
    exact bodyPost_ret (v := .tuple #[.agg #[.bool G1, .slice a8 G2.length c8, .int .i64 G3], .bool false]) (by simp [results, Tryd.results28, go_sem, q0, q1, q2]) rfl ⟨_, by rw [unhide HG1, unhide HG3], by rw [unhide HG2]; exact .inr (unhide RF), unhide KF⟩
  · have N7 : Hid ((wlm MM).length ≤ 50000) := by
      show _ ≤ _
      rw [← unhide HM2, wlm_rnd]
      simp only [if_true]
      refine Nat.le_trans (limbs_len_le (n := (val zs).toNat + 1) (Nat.succ_le_succ (Nat.div_le_self _ _))) ?_
      have := limbs_succ_len zs hn.1
      omega
    go_upto_region 6 with fail
    obtain ⟨SQ, hSQ⟩ : ∃ y, limbs ((val zs).toNat / 2 ^ KK + 1) = y := ⟨_, rfl⟩
    have HS := hide hSQ
    clear hSQ
    have HNS : Hid (Nrm SQ) := by show Nrm _; rw [← unhide HS]; exact limbs_nrm _
    have eS : (val QQ + val (limbs (1 : Int).toNat)).toNat = (val zs).toNat / 2 ^ KK + 1 := by rw [← unhide HQ, limbs_val, limbs_val]; generalize (val zs).toNat / 2 ^ KK = n; omega
    have kd := (Kept.refl 0 0 w4).drew
    replace r3 := r3.kept kd (.inr (.inr (Nat.le_refl 0)))
    replace qf0 := kd.loose0 (World.block_lt_of_cell? _ _ q0) qf0
    replace qf1 := kd.loose0 (World.block_lt_of_cell? _ _ q1) qf1
    replace qf2 := kd.loose0 (World.block_lt_of_cell? _ _ q2) qf2
    replace yf0 := kd.loose0 (World.block_lt_of_cell? _ _ y0) yf0
    replace p0 := kd.cell0 p0
    replace p1 := kd.cell0 p1
    replace p2 := kd.cell0 p2
    replace q0 := kd.cell0 q0
    replace q1 := kd.cell0 q1
    replace q2 := kd.cell0 q2
    replace y0 := kd.cell0 y0
    replace K := hide ((unhide K).trans kd)
    have z6 := kd.size
    clear kd
    refine wp_region_held_drew (S := (fun w' => True)) (by kernel_rfl) ?_ (fun hHeld => ?_)
    · exact trivial
    generalize w4.drew = wd7 at *
    refine wpAnyH_ready (rs := [0, 1]) (by kernel_rfl) (by simp) ?_
    refine AllReadyH.cons rfl (fun KK hK => ?_) (AllReadyH.cons rfl (fun KK hK => ?_) AllReadyH.nil)
    · simp only [List.getElem_toArray, List.getElem_cons_succ, List.getElem_cons_zero]
      rw [if_pos (by rfl)]
      go_simp
      clear hHeld
      refine hK.out _ _ ?_ (fun hHeld => ?_)
      · exact trivial
      clear hK KK
      try simp only [Act.put, List.getElem_toArray, List.getElem_cons_succ, List.getElem_cons_zero, List.setIfInBounds_toArray, List.set_cons_zero, List.set_cons_succ]
      refine wpAnyH_ready (rs := [1]) (by kernel_rfl) (by simp) ?_
      refine AllReadyH.cons rfl (fun KK hK => ?_) AllReadyH.nil
      simp only [List.getElem_toArray, List.getElem_cons_succ, List.getElem_cons_zero]
      rw [if_pos (by rfl)]
      refine wps1 50 (.const (.int .i64 1)) _ rfl in_l2of_r (.int .i64 1) rfl (of_spec _ 1 (by omega)) ?_
      rintro e w8 ⟨v4, rfl, r4, k8⟩
      refine ⟨_, rfl, ?_⟩
      replace r3 := r3.kept k8 (.inr (.inr (Nat.le_refl 0)))
      replace qf0 := k8.loose0 (World.block_lt_of_cell? _ _ q0) qf0
      replace qf1 := k8.loose0 (World.block_lt_of_cell? _ _ q1) qf1
      replace qf2 := k8.loose0 (World.block_lt_of_cell? _ _ q2) qf2
      replace yf0 := k8.loose0 (World.block_lt_of_cell? _ _ y0) yf0
      replace p0 := k8.cell0 p0
      replace p1 := k8.cell0 p1
      replace p2 := k8.cell0 p2
      replace q0 := k8.cell0 q0
      replace q1 := k8.cell0 q1
      replace q2 := k8.cell0 q2
      replace y0 := k8.cell0 y0
      replace K := hide ((unhide K).trans k8)
      have z9 := k8.size
      clear k8
      obtain ⟨a4, c4, hv⟩ := Row.form' r4
      subst hv
      clear hHeld
      refine hK.out _ _ ?_ (fun hHeld => ?_)
      · exact trivial
      clear hK KK
      try simp only [Act.put, List.getElem_toArray, List.getElem_cons_succ, List.getElem_cons_zero, List.setIfInBounds_toArray, List.set_cons_zero, List.set_cons_succ]
      refine wpAnyH_ready (rs := [2]) (by kernel_rfl) (by simp) ?_
      refine AllReadyH.cons rfl (fun KK hK => ?_) AllReadyH.nil
      simp only [List.getElem_toArray, List.getElem_cons_succ, List.getElem_cons_zero]
      rw [if_pos (by rfl)]
      refine wps2 49 (.tmp 41) (.tmp 42) _ rfl in_l2add_r (.agg #[.slice a3 QQ.length c3]) (.agg #[.slice a4 (limbs (1 : Int).toNat).length c4]) rfl rfl (add_spec _ r3 r4 lQ (limbs_lim _) (by omega) (by decide)) ?_
      rintro e w10 ⟨v5, rfl, r5, k10⟩
      refine ⟨_, rfl, ?_⟩
      replace r3 := r3.kept k10 (.inr (.inr (Nat.le_refl 0)))
      replace r4 := r4.kept k10 (.inr (.inr (Nat.le_refl 0)))
      replace qf0 := k10.loose0 (World.block_lt_of_cell? _ _ q0) qf0
      replace qf1 := k10.loose0 (World.block_lt_of_cell? _ _ q1) qf1
      replace qf2 := k10.loose0 (World.block_lt_of_cell? _ _ q2) qf2
      replace yf0 := k10.loose0 (World.block_lt_of_cell? _ _ y0) yf0
      replace p0 := k10.cell0 p0
      replace p1 := k10.cell0 p1
      replace p2 := k10.cell0 p2
      replace q0 := k10.cell0 q0
      replace q1 := k10.cell0 q1
      replace q2 := k10.cell0 q2
      replace y0 := k10.cell0 y0
      replace K := hide ((unhide K).trans k10)
      have z11 := k10.size
      clear k10
      rw [eS, unhide HS] at r5
      clear hHeld
      refine hK.out _ _ ?_ (fun hHeld => ?_)
      · exact trivial
      clear hK KK
      try simp only [Act.put, List.getElem_toArray, List.getElem_cons_succ, List.getElem_cons_zero, List.setIfInBounds_toArray, List.set_cons_zero, List.set_cons_succ]
      obtain ⟨a5, c5, hv⟩ := Row.form' r5
      subst hv
      refine wpAnyH_ready (rs := [3]) (by kernel_rfl) (by simp) ?_
      refine AllReadyH.cons rfl (fun KK hK => ?_) AllReadyH.nil
      simp only [List.getElem_toArray, List.getElem_cons_succ, List.getElem_cons_zero]
      rw [if_pos (by rfl)]
      go_simp
      clear hHeld
      refine hK.out _ _ ?_ (fun hHeld => ?_)
      · trivial
      clear hK KK
      try simp only [Act.put, List.getElem_toArray, List.getElem_cons_succ, List.getElem_cons_zero, List.setIfInBounds_toArray, List.set_cons_zero, List.set_cons_succ]
      refine wpAnyH_done (by kernel_rfl) ?_ _
      clear hHeld
      try go_simp
      have sS0 := unhide S0
      replace r3 := r3.set_other (p := ⟨w1.heap.size, 0, none⟩) (by dsimp only; omega) (.slice a5 SQ.length c5)
      replace r4 := r4.set_other (p := ⟨w1.heap.size, 0, none⟩) (by dsimp only; omega) (.slice a5 SQ.length c5)
      replace r5 := r5.set_other (p := ⟨w1.heap.size, 0, none⟩) (by dsimp only; omega) (.slice a5 SQ.length c5)
      replace p0 := cell_aside (.slice a5 SQ.length c5) (r := ⟨w1.heap.size, 0, none⟩) (by dsimp only; omega) p0
      replace p1 := cell_aside (.slice a5 SQ.length c5) (r := ⟨w1.heap.size, 0, none⟩) (by dsimp only; omega) p1
      replace p2 := cell_aside (.slice a5 SQ.length c5) (r := ⟨w1.heap.size, 0, none⟩) (by dsimp only; omega) p2
      replace q0 := cell_aside (.slice a5 SQ.length c5) (r := ⟨w1.heap.size, 0, none⟩) (by dsimp only; omega) q0
      replace q1 := cell_aside (.slice a5 SQ.length c5) (r := ⟨w1.heap.size, 0, none⟩) (by dsimp only; omega) q1
      replace q2 := cell_aside (.slice a5 SQ.length c5) (r := ⟨w1.heap.size, 0, none⟩) (by dsimp only; omega) q2
      replace qf0 : (w10.setCell ⟨w1.heap.size, 0, none⟩ (.slice a5 SQ.length c5)).frozen? _ = false := (frozen_set _ _ _ _ _).trans qf0
      replace qf1 : (w10.setCell ⟨w1.heap.size, 0, none⟩ (.slice a5 SQ.length c5)).frozen? _ = false := (frozen_set _ _ _ _ _).trans qf1
      replace qf2 : (w10.setCell ⟨w1.heap.size, 0, none⟩ (.slice a5 SQ.length c5)).frozen? _ = false := (frozen_set _ _ _ _ _).trans qf2
      replace yf0 : (w10.setCell ⟨w1.heap.size, 0, none⟩ (.slice a5 SQ.length c5)).frozen? _ = false := (frozen_set _ _ _ _ _).trans yf0
      replace y0 : (w10.setCell ⟨w1.heap.size, 0, none⟩ (.slice a5 SQ.length c5)).cell? ⟨w1.heap.size, 0, none⟩ = some (.slice a5 SQ.length c5) := cell_on _ _ _ _ _ y0
      replace K := hide ((unhide K).setNew (p := ⟨w1.heap.size, 0, none⟩) (by dsimp only; omega) (.slice a5 SQ.length c5))
      have zs12 : (w10.setCell ⟨w1.heap.size, 0, none⟩ (.slice a5 SQ.length c5)).heap.size = w10.heap.size := by simp [World.setCell]
      clear sS0
      generalize w10.setCell ⟨w1.heap.size, 0, none⟩ (.slice a5 SQ.length c5) = ws12 at *
      have hlS : SQ.length ≤ 1000000 := by have := unhide N7; rw [← unhide HS]; exact Nat.le_trans (limbs_len_le (n := (val zs).toNat + 1) (Nat.succ_le_succ (Nat.div_le_self _ _))) (by have := limbs_succ_len zs hn.1; omega)
      go_wp2_with fail
      have hnx : Nrm SQ := unhide HNS
      refine (make_any s _ r5 hnx (by omega)).mono ?_
      rintro e w13 ⟨v7, rfl, r7, k13⟩
      replace r3 := r3.kept k13 (.inr (.inr (Nat.le_refl 0)))
      replace r4 := r4.kept k13 (.inr (.inr (Nat.le_refl 0)))
      replace r5 := r5.kept k13 (.inr (.inr (Nat.le_refl 0)))
      replace qf0 := k13.loose0 (World.block_lt_of_cell? _ _ q0) qf0
      replace qf1 := k13.loose0 (World.block_lt_of_cell? _ _ q1) qf1
      replace qf2 := k13.loose0 (World.block_lt_of_cell? _ _ q2) qf2
      replace yf0 := k13.loose0 (World.block_lt_of_cell? _ _ y0) yf0
      replace p0 := k13.cell0 p0
      replace p1 := k13.cell0 p1
      replace p2 := k13.cell0 p2
      replace q0 := k13.cell0 q0
      replace q1 := k13.cell0 q1
      replace q2 := k13.cell0 q2
      replace y0 := k13.cell0 y0
      replace K := hide ((unhide K).trans k13)
      have z14 := k13.size
      clear k13
      obtain ⟨M7, hM7⟩ : ∃ y, wval s SQ = y := ⟨_, rfl⟩
      rw [hM7] at r7
      rw [hM7]
      have e7 : M7 = MM := by rw [← hM7, ← unhide HM2]; rw [← unhide HS]; simp
      subst e7
      clear hM7 HM2
      have w7 : WN (wsg M7) (wlm M7) := wn_int M7
      have n7 : (wlm M7).length ≤ 50000 := unhide N7
      obtain ⟨a7, c7, hv⟩ := Row.form' r7
      subst hv
      go_wp2_with fail
      refine (make4_spec (wsg M7) low M7 (wval_int M7) (by omega) (by omega) _ r7 w7 n7).mono ?_
      rintro e w15 ⟨v8, rfl, r8, k15⟩
      replace r3 := r3.kept k15 (.inr (.inr (Nat.le_refl 0)))
      replace r4 := r4.kept k15 (.inr (.inr (Nat.le_refl 0)))
      replace r5 := r5.kept k15 (.inr (.inr (Nat.le_refl 0)))
      replace r7 := r7.kept k15 (.inr (.inr (Nat.le_refl 0)))
      replace qf0 := k15.loose0 (World.block_lt_of_cell? _ _ q0) qf0
      replace qf1 := k15.loose0 (World.block_lt_of_cell? _ _ q1) qf1
      replace qf2 := k15.loose0 (World.block_lt_of_cell? _ _ q2) qf2
      replace yf0 := k15.loose0 (World.block_lt_of_cell? _ _ y0) yf0
      replace p0 := k15.cell0 p0
      replace p1 := k15.cell0 p1
      replace p2 := k15.cell0 p2
      replace q0 := k15.cell0 q0
      replace q1 := k15.cell0 q1
      replace q2 := k15.cell0 q2
      replace y0 := k15.cell0 y0
      replace K := hide ((unhide K).trans k15)
      have z16 := k15.size
      clear k15
      obtain ⟨G2, hG2⟩ : ∃ y, dlm M7 = y := ⟨_, rfl⟩
      rw [hG2] at r8
      have HG2 := hide hG2
      clear hG2
      obtain ⟨a8, c8, hv⟩ := Row.form' r8
      subst hv
      obtain ⟨G1, hG1⟩ : ∃ y, wsg M7 = y := ⟨_, rfl⟩
      obtain ⟨G3, hG3⟩ : ∃ y, dex M7 low = y := ⟨_, rfl⟩
      rw [hG1, hG3]
      have HG1 := hide hG1
      have HG3 := hide hG3
      clear hG1 hG3
      have KF := hide ((((unhide K).setNew (p := ⟨w.heap.size + 1, 0, none⟩) (by simp) (.bool G1)).setNew (p := ⟨w.heap.size + 1, 1, none⟩) (by simp) (.slice a8 G2.length c8)).setNew (p := ⟨w.heap.size + 1, 2, none⟩) (by simp) (.int .i64 G3))
      have RF := hide ((((r8.set_other (p := ⟨w.heap.size + 1, 0, none⟩) (.inl (by have := unhide S0; dsimp only; omega)) (.bool G1)).set_other (p := ⟨w.heap.size + 1, 1, none⟩) (.inl (by have := unhide S0; dsimp only; omega)) (.slice a8 G2.length c8)).set_other (p := ⟨w.heap.size + 1, 2, none⟩) (.inl (by have := unhide S0; dsimp only; omega)) (.int .i64 G3)).tight.wider (lo' := w.heap.size) (by have := unhide S0; omega) (Nat.le_refl _))
      clear r3 r4 r5 r7 r8 K
      go_wp2_with fail
      exact bodyPost_ret (v := .tuple #[.agg #[.bool G1, .slice a8 G2.length c8, .int .i64 G3], .bool false]) (by simp [results, Tryd.results28, go_sem, q0, q1, q2]) rfl ⟨_, by rw [unhide HG1, unhide HG3], by rw [unhide HG2]; exact .inr (unhide RF), unhide KF⟩
    · simp only [List.getElem_toArray, List.getElem_cons_succ, List.getElem_cons_zero]
      rw [if_pos (by rfl)]
      refine wps1 50 (.const (.int .i64 1)) _ rfl in_l2of_r (.int .i64 1) rfl (of_spec _ 1 (by omega)) ?_
      rintro e w8 ⟨v4, rfl, r4, k8⟩
      refine ⟨_, rfl, ?_⟩
      replace r3 := r3.kept k8 (.inr (.inr (Nat.le_refl 0)))
      replace qf0 := k8.loose0 (World.block_lt_of_cell? _ _ q0) qf0
      replace qf1 := k8.loose0 (World.block_lt_of_cell? _ _ q1) qf1
      replace qf2 := k8.loose0 (World.block_lt_of_cell? _ _ q2) qf2
      replace yf0 := k8.loose0 (World.block_lt_of_cell? _ _ y0) yf0
      replace p0 := k8.cell0 p0
      replace p1 := k8.cell0 p1
      replace p2 := k8.cell0 p2
      replace q0 := k8.cell0 q0
      replace q1 := k8.cell0 q1
      replace q2 := k8.cell0 q2
      replace y0 := k8.cell0 y0
      replace K := hide ((unhide K).trans k8)
      have z9 := k8.size
      clear k8
      obtain ⟨a4, c4, hv⟩ := Row.form' r4
      subst hv
      clear hHeld
      refine hK.out _ _ ?_ (fun hHeld => ?_)
      · exact trivial
      clear hK KK
      try simp only [Act.put, List.getElem_toArray, List.getElem_cons_succ, List.getElem_cons_zero, List.setIfInBounds_toArray, List.set_cons_zero, List.set_cons_succ]
      refine wpAnyH_ready (rs := [0]) (by kernel_rfl) (by simp) ?_
      refine AllReadyH.cons rfl (fun KK hK => ?_) AllReadyH.nil
      simp only [List.getElem_toArray, List.getElem_cons_succ, List.getElem_cons_zero]
      rw [if_pos (by rfl)]
      go_simp
      clear hHeld
      refine hK.out _ _ ?_ (fun hHeld => ?_)
      · exact trivial
      clear hK KK
      try simp only [Act.put, List.getElem_toArray, List.getElem_cons_succ, List.getElem_cons_zero, List.setIfInBounds_toArray, List.set_cons_zero, List.set_cons_succ]
      refine wpAnyH_ready (rs := [2]) (by kernel_rfl) (by simp) ?_
      refine AllReadyH.cons rfl (fun KK hK => ?_) AllReadyH.nil
      simp only [List.getElem_toArray, List.getElem_cons_succ, List.getElem_cons_zero]
      rw [if_pos (by rfl)]
      refine wps2 49 (.tmp 41) (.tmp 42) _ rfl in_l2add_r (.agg #[.slice a3 QQ.length c3]) (.agg #[.slice a4 (limbs (1 : Int).toNat).length c4]) rfl rfl (add_spec _ r3 r4 lQ (limbs_lim _) (by omega) (by decide)) ?_
      rintro e w10 ⟨v5, rfl, r5, k10⟩
      refine ⟨_, rfl, ?_⟩
      replace r3 := r3.kept k10 (.inr (.inr (Nat.le_refl 0)))
      replace r4 := r4.kept k10 (.inr (.inr (Nat.le_refl 0)))
      replace qf0 := k10.loose0 (World.block_lt_of_cell? _ _ q0) qf0
      replace qf1 := k10.loose0 (World.block_lt_of_cell? _ _ q1) qf1
      replace qf2 := k10.loose0 (World.block_lt_of_cell? _ _ q2) qf2
      replace yf0 := k10.loose0 (World.block_lt_of_cell? _ _ y0) yf0
      replace p0 := k10.cell0 p0
      replace p1 := k10.cell0 p1
      replace p2 := k10.cell0 p2
      replace q0 := k10.cell0 q0
      replace q1 := k10.cell0 q1
      replace q2 := k10.cell0 q2
      replace y0 := k10.cell0 y0
      replace K := hide ((unhide K).trans k10)
      have z11 := k10.size
      clear k10
      rw [eS, unhide HS] at r5
      clear hHeld
      refine hK.out _ _ ?_ (fun hHeld => ?_)
      · exact trivial
      clear hK KK
      try simp only [Act.put, List.getElem_toArray, List.getElem_cons_succ, List.getElem_cons_zero, List.setIfInBounds_toArray, List.set_cons_zero, List.set_cons_succ]
      obtain ⟨a5, c5, hv⟩ := Row.form' r5
      subst hv
      refine wpAnyH_ready (rs := [3]) (by kernel_rfl) (by simp) ?_
      refine AllReadyH.cons rfl (fun KK hK => ?_) AllReadyH.nil
      simp only [List.getElem_toArray, List.getElem_cons_succ, List.getElem_cons_zero]
      rw [if_pos (by rfl)]
      go_simp
      clear hHeld
      refine hK.out _ _ ?_ (fun hHeld => ?_)
      · trivial
      clear hK KK
      try simp only [Act.put, List.getElem_toArray, List.getElem_cons_succ, List.getElem_cons_zero, List.setIfInBounds_toArray, List.set_cons_zero, List.set_cons_succ]
      refine wpAnyH_done (by kernel_rfl) ?_ _
      clear hHeld
      try go_simp
      have sS0 := unhide S0
      replace r3 := r3.set_other (p := ⟨w1.heap.size, 0, none⟩) (by dsimp only; omega) (.slice a5 SQ.length c5)
      replace r4 := r4.set_other (p := ⟨w1.heap.size, 0, none⟩) (by dsimp only; omega) (.slice a5 SQ.length c5)
      replace r5 := r5.set_other (p := ⟨w1.heap.size, 0, none⟩) (by dsimp only; omega) (.slice a5 SQ.length c5)
      replace p0 := cell_aside (.slice a5 SQ.length c5) (r := ⟨w1.heap.size, 0, none⟩) (by dsimp only; omega) p0
      replace p1 := cell_aside (.slice a5 SQ.length c5) (r := ⟨w1.heap.size, 0, none⟩) (by dsimp only; omega) p1
      replace p2 := cell_aside (.slice a5 SQ.length c5) (r := ⟨w1.heap.size, 0, none⟩) (by dsimp only; omega) p2
      replace q0 := cell_aside (.slice a5 SQ.length c5) (r := ⟨w1.heap.size, 0, none⟩) (by dsimp only; omega) q0
      replace q1 := cell_aside (.slice a5 SQ.length c5) (r := ⟨w1.heap.size, 0, none⟩) (by dsimp only; omega) q1
      replace q2 := cell_aside (.slice a5 SQ.length c5) (r := ⟨w1.heap.size, 0, none⟩) (by dsimp only; omega) q2
      replace qf0 : (w10.setCell ⟨w1.heap.size, 0, none⟩ (.slice a5 SQ.length c5)).frozen? _ = false := (frozen_set _ _ _ _ _).trans qf0
      replace qf1 : (w10.setCell ⟨w1.heap.size, 0, none⟩ (.slice a5 SQ.length c5)).frozen? _ = false := (frozen_set _ _ _ _ _).trans qf1
      replace qf2 : (w10.setCell ⟨w1.heap.size, 0, none⟩ (.slice a5 SQ.length c5)).frozen? _ = false := (frozen_set _ _ _ _ _).trans qf2
      replace yf0 : (w10.setCell ⟨w1.heap.size, 0, none⟩ (.slice a5 SQ.length c5)).frozen? _ = false := (frozen_set _ _ _ _ _).trans yf0
      replace y0 : (w10.setCell ⟨w1.heap.size, 0, none⟩ (.slice a5 SQ.length c5)).cell? ⟨w1.heap.size, 0, none⟩ = some (.slice a5 SQ.length c5) := cell_on _ _ _ _ _ y0
      replace K := hide ((unhide K).setNew (p := ⟨w1.heap.size, 0, none⟩) (by dsimp only; omega) (.slice a5 SQ.length c5))
      have zs12 : (w10.setCell ⟨w1.heap.size, 0, none⟩ (.slice a5 SQ.length c5)).heap.size = w10.heap.size := by simp [World.setCell]
      clear sS0
      generalize w10.setCell ⟨w1.heap.size, 0, none⟩ (.slice a5 SQ.length c5) = ws12 at *
      have hlS : SQ.length ≤ 1000000 := by have := unhide N7; rw [← unhide HS]; exact Nat.le_trans (limbs_len_le (n := (val zs).toNat + 1) (Nat.succ_le_succ (Nat.div_le_self _ _))) (by have := limbs_succ_len zs hn.1; omega)
      go_wp2_with fail
      have hnx : Nrm SQ := unhide HNS
      refine (make_any s _ r5 hnx (by omega)).mono ?_
      rintro e w13 ⟨v7, rfl, r7, k13⟩
      replace r3 := r3.kept k13 (.inr (.inr (Nat.le_refl 0)))
      replace r4 := r4.kept k13 (.inr (.inr (Nat.le_refl 0)))
      replace r5 := r5.kept k13 (.inr (.inr (Nat.le_refl 0)))
      replace qf0 := k13.loose0 (World.block_lt_of_cell? _ _ q0) qf0
      replace qf1 := k13.loose0 (World.block_lt_of_cell? _ _ q1) qf1
      replace qf2 := k13.loose0 (World.block_lt_of_cell? _ _ q2) qf2
      replace yf0 := k13.loose0 (World.block_lt_of_cell? _ _ y0) yf0
      replace p0 := k13.cell0 p0
      replace p1 := k13.cell0 p1
      replace p2 := k13.cell0 p2
      replace q0 := k13.cell0 q0
      replace q1 := k13.cell0 q1
      replace q2 := k13.cell0 q2
      replace y0 := k13.cell0 y0
      replace K := hide ((unhide K).trans k13)
      have z14 := k13.size
      clear k13
      obtain ⟨M7, hM7⟩ : ∃ y, wval s SQ = y := ⟨_, rfl⟩
      rw [hM7] at r7
      rw [hM7]
      have e7 : M7 = MM := by rw [← hM7, ← unhide HM2]; rw [← unhide HS]; simp
      subst e7
      clear hM7 HM2
      have w7 : WN (wsg M7) (wlm M7) := wn_int M7
      have n7 : (wlm M7).length ≤ 50000 := unhide N7
      obtain ⟨a7, c7, hv⟩ := Row.form' r7
      subst hv
      go_wp2_with fail
      refine (make4_spec (wsg M7) low M7 (wval_int M7) (by omega) (by omega) _ r7 w7 n7).mono ?_
      rintro e w15 ⟨v8, rfl, r8, k15⟩
      replace r3 := r3.kept k15 (.inr (.inr (Nat.le_refl 0)))
      replace r4 := r4.kept k15 (.inr (.inr (Nat.le_refl 0)))
      replace r5 := r5.kept k15 (.inr (.inr (Nat.le_refl 0)))
      replace r7 := r7.kept k15 (.inr (.inr (Nat.le_refl 0)))
      replace qf0 := k15.loose0 (World.block_lt_of_cell? _ _ q0) qf0
      replace qf1 := k15.loose0 (World.block_lt_of_cell? _ _ q1) qf1
      replace qf2 := k15.loose0 (World.block_lt_of_cell? _ _ q2) qf2
      replace yf0 := k15.loose0 (World.block_lt_of_cell? _ _ y0) yf0
      replace p0 := k15.cell0 p0
      replace p1 := k15.cell0 p1
      replace p2 := k15.cell0 p2
      replace q0 := k15.cell0 q0
      replace q1 := k15.cell0 q1
      replace q2 := k15.cell0 q2
      replace y0 := k15.cell0 y0
      replace K := hide ((unhide K).trans k15)
      have z16 := k15.size
      clear k15
      obtain ⟨G2, hG2⟩ : ∃ y, dlm M7 = y := ⟨_, rfl⟩
      rw [hG2] at r8
      have HG2 := hide hG2
      clear hG2
      obtain ⟨a8, c8, hv⟩ := Row.form' r8
      subst hv
      obtain ⟨G1, hG1⟩ : ∃ y, wsg M7 = y := ⟨_, rfl⟩
      obtain ⟨G3, hG3⟩ : ∃ y, dex M7 low = y := ⟨_, rfl⟩
      rw [hG1, hG3]
      have HG1 := hide hG1
      have HG3 := hide hG3
      clear hG1 hG3
      have KF := hide ((((unhide K).setNew (p := ⟨w.heap.size + 1, 0, none⟩) (by simp) (.bool G1)).setNew (p := ⟨w.heap.size + 1, 1, none⟩) (by simp) (.slice a8 G2.length c8)).setNew (p := ⟨w.heap.size + 1, 2, none⟩) (by simp) (.int .i64 G3))
      have RF := hide ((((r8.set_other (p := ⟨w.heap.size + 1, 0, none⟩) (.inl (by have := unhide S0; dsimp only; omega)) (.bool G1)).set_other (p := ⟨w.heap.size + 1, 1, none⟩) (.inl (by have := unhide S0; dsimp only; omega)) (.slice a8 G2.length c8)).set_other (p := ⟨w.heap.size + 1, 2, none⟩) (.inl (by have := unhide S0; dsimp only; omega)) (.int .i64 G3)).tight.wider (lo' := w.heap.size) (by have := unhide S0; omega) (Nat.le_refl _))
      clear r3 r4 r5 r7 r8 K
      go_wp2_with fail
      exact bodyPost_ret (v := .tuple #[.agg #[.bool G1, .slice a8 G2.length c8, .int .i64 G3], .bool false]) (by simp [results, Tryd.results28, go_sem, q0, q1, q2]) rfl ⟨_, by rw [unhide HG1, unhide HG3], by rw [unhide HG2]; exact .inr (unhide RF), unhide KF⟩

theorem round4_spec {bw : Bool} {lo hi : Nat} {v : Value} {zs : List Int} (s : Bool) (x low : Int) (hx0 : -200000 ≤ x) (hx1 : x ≤ 200000) (hl0 : -200000 ≤ low) (hl1 : low ≤ 200000) (w : World) (r : Row .i64 bw lo hi w v zs) (hn : WN s zs) (ho : zs ≠ [] → val zs % 2 = 1) (hz : zs = [] → x = 0) (hl : zs.length ≤ 40000) (mode : Int) (hm0 : 0 ≤ mode) (hm4 : mode ≤ 4) :
    Calls Tryd.prog 28 #[.agg #[.bool s, v, .int .i64 x], .int .i64 low, .int .i64 mode] w fun e w' => ∃ v', e = .returned (.tuple #[.agg #[.bool (wsg (rndM mode.toNat s (val zs).toNat (x - (low - 1)))), v', .int .i64 (dex (rndM mode.toNat s (val zs).toNat (x - (low - 1))) low)], .bool (rndX (scN (val zs).toNat (x - (low - 1))) (scL (val zs).toNat (x - (low - 1))))]) ∧ Row .i64 false 0 w'.heap.size w' v' (dlm (rndM mode.toNat s (val zs).toNat (x - (low - 1)))) ∧ Kept 0 0 w w' := by
  refine (round4_two s x low hx0 hx1 hl0 hl1 w r hn ho hz hl mode hm0 hm4).mono ?_
  rintro e w' ⟨v', h1, h2, h3⟩
  refine ⟨v', h1, ?_, h3⟩
  rcases h2 with h2 | h2
  · exact h2.read.tight.wider (Nat.zero_le _) (Nat.le_refl _)
  · exact h2.read.wider (Nat.zero_le _) (Nat.le_refl _)

end Go.Proofs.YtlenocminckbkaaDoor
