/-
  The walk of the law FnFlInts: it returns true at every code.
-/
import Derived.Test.YtckaecmkidplhaaGreatDoorFiN
import Derived.Test.YtckaecmkidplhaaGreatDoorFlDw
import Derived.Test.YtckaecmkidplhaaGreatDoorOrdFd
import Derived.Test.YtckaecmkidplhaaGreatDoorLwS
import Derived.Test.YtckaecmkidplhaaGreatDoorBS
import Derived.Test.YtckaecmkidplhaaGreatDoorBE
import Derived.Deep.RegionHeld3
import Derived.Deep.DeepCutAuto
namespace Go.Proofs.YtckaecmkidplhaaGreatDoor
open Go.RowKit
set_option linter.unusedVariables false
set_option maxRecDepth 8000
set_option linter.unusedSimpArgs false

theorem in_WholeOf_g : ∀ (w : World) (args : Array Value), (callFunc 34 args).run Tryz.prog w = .ok (.enter 34 args) w := enters Tryz.func34 (by decide) (fun h => by cases h)

theorem in_sameWhole_g : ∀ (w : World) (args : Array Value), (callFunc 33 args).run Tryz.prog w = .ok (.enter 33 args) w := enters Tryz.func33 (by decide) (fun h => by cases h)

theorem wok_told {x : Int} (h : (wlm x).length ≤ 100) : wokB (wsg x) (wlm x) = true := by
  unfold wokB
  rw [(okB_iff _).2 ⟨h, limbs_nrm _⟩, Bool.true_and]
  cases hs : wsg x
  · rfl
  · have : 0 < (wlm x).length := by
      have e := limbs_pos x.natAbs
      unfold wsg at hs
      have hx := of_decide_eq_true hs
      rw [decide_eq_true (show 0 < x.natAbs by omega)] at e
      exact of_decide_eq_true e
    simpa using this
theorem rnd_nought (mode : Nat) : rndM mode (wsg 0) (val (dlm 0)).toNat (dex 0 0 - (0 - 1)) = 0 := by
  have e1 : dex 0 0 - (0 - 1) = ((1 : Nat) : Int) := by decide
  have e2 : (val (dlm 0)).toNat = 0 := by rw [dlm_zero]; rfl
  rw [e1, e2]
  unfold rndM
  rw [scN_up, scL_up, Nat.zero_mul, rndN_exact _ _ (by decide)]
  decide
/-- A float that is a whole number by rounding, and the rounded dyadic number, are one. -/
theorem ti_round {k : Int} {n : Bool} {m e how : Int} (h : tiB k n m e how = true) {S3 : Bool} {L3 : List Int} {E3 : Int} (h1 : ansDS (fdyB k n m e) (fM k n m) e = S3) (h2 : ansDL (fdyB k n m e) (fM k n m) e = L3) (h3 : ansDE (fdyB k n m e) (fM k n m) e = E3) :
    (E3 ≤ 9223372036854775807 ∧ -9223372036854775808 ≤ E3) ∧ (dokB S3 L3 E3 && mayR 0 how) = true ∧ (wokB (tiS k n m e how) (tiL k n m e how) && l4eB 0) = true ∧ rndM how.toNat S3 (val L3).toNat (E3 - (0 - 1)) = tiM k n m e how ∧ wval (tiS k n m e how) (tiL k n m e how) = tiM k n m e how := by
  obtain ⟨t1, t2⟩ := ti_yes h
  have hl := tiL_len k n m e how
  have hb : fdyB k n m e = true := by
    unfold tiB at h
    unfold fdyB
    simp only [Bool.and_eq_true] at h ⊢
    exact h.1
  have hm : modeB how = true := by
    unfold tiB at h
    simp only [Bool.and_eq_true] at h
    exact h.2
  obtain ⟨-, e1, e2, e3, e4⟩ := fdy_told hb
  subst h1 h2 h3
  rw [t1] at *
  rw [t2] at *
  rw [e1, e2, e3]
  have hM : wval (wsg (tiM k n m e how)) (wlm (tiM k n m e how)) = tiM k n m e how := wval_wsg _
  have hw : wokB (wsg (tiM k n m e how)) (wlm (tiM k n m e how)) = true := wok_told hl
  refine ⟨?_, ?_, ?_, ?_, hM⟩
  · obtain ⟨-, a, b, -⟩ := dok_parts e4
    omega
  · rw [e4]; unfold mayR; rw [hm]; rfl
  · rw [hw]; rfl
  · obtain ⟨f1, f2, f3⟩ := fdy_ways hb
    rcases flok_ways f1 with ⟨rfl, a1, a2, a3, a4, -⟩ | ⟨rfl, rfl, rfl⟩ | ⟨rfl, rfl, rfl⟩ | ⟨rfl, rfl, rfl, rfl⟩
    · rw [ti_num n a3 e how.toNat]
      unfold tiM
      rw [if_pos rfl]
    · unfold tiM fM
      rw [if_neg (by decide), if_neg (by decide)]
      exact rnd_nought _
    · exact absurd rfl f3
    · exact absurd rfl f2

theorem sameWhole_one {b1 b2 : Bool} {l1 h1 l2 h2 : Nat} {v1 v2 : Value} {xs : List Int} (s : Bool) (w : World) (r1 : Row .i64 b1 l1 h1 w v1 xs) (r2 : Row .i64 b2 l2 h2 w v2 xs) :
    Calls Tryz.prog 33 #[.agg #[.bool s, v1], .agg #[.bool s, v2]] w fun e w' => e = .returned (.bool true) ∧ Kept 0 0 w w' := by
  have mk := sameWhole_any s s w r1 r2
  rw [show ((s == s) && sameL xs xs) = true by rw [show sameL xs xs = true from decide_eq_true rfl]; cases s <;> rfl] at mk
  exact mk

set_option maxHeartbeats 16000000 in
theorem law_FlInts {v : Value} {zs : List Int} {w : World} (r : Row .u8 false 0 w.heap.size w v zs) (hb0 : ∀ z ∈ zs, (Lit.int .u8 z).wf = true) (T : TabB w) :
    Calls Tryz.prog 6 #[v] w fun e' w' => e' = .returned (.bool true) ∧ Below w.heap.size w w' := by
  have hb := bytes_of_wf hb0
  clear hb0
  have HT := hide T
  clear T
  have K := hide (Kept.refl 0 0 w)
  obtain ⟨a0, c0, hv⟩ := Row.form' r
  subst hv
  have S0 := hide (show w.heap.size = w.heap.size from rfl)
  go_enter Tryz.func6, Tryz.ntmps6
  go_wp2_with fail
  refine (drawOfInt_any _ r hb).mono ?_
  rintro e w1 ⟨n, md, rfl, hn1, hn0, hm1, hm2, k1⟩
  replace r := r.kept k1 (.inr (.inr (Nat.le_refl 0)))
  replace K := hide ((unhide K).trans k1)
  have z2 := k1.size
  clear k1
  go_wp2_with fail
  obtain ⟨⟨fk, fn, fm, fe⟩, hF⟩ : ∃ y, fiQ n md = y := ⟨_, rfl⟩
  obtain ⟨G, hG⟩ : ∃ y, fiG n md = y := ⟨_, rfl⟩
  have ml := fun (w : World) (T : TabB w) => flofint_impl n md hn1 hn0 w T
  simp only [hF, hG] at ml
  have HL : Hid (0 ≤ md → md ≤ 4 → tiB fk fn fm fe 1 = true ∧ (G = 0 → tiS fk fn fm fe 1 = wsg n ∧ tiL fk fn fm fe 1 = wlm n) ∧ (-9007199254740992 < n → n < 9007199254740992 → G = 0)) := fun a b => by
    have := fi_law n md hn1 hn0 (by unfold modeB; rw [decide_eq_true a, decide_eq_true b]; rfl)
    rw [hF, hG] at this
    exact this
  replace ml := hide ml
  clear hF hG
  refine (unhide ml _ ((unhide HT).kept (unhide K))).mono ?_
  rintro e w3 ⟨rfl, k3⟩
  replace r := r.kept k3 (.inr (.inr (Nat.le_refl 0)))
  replace K := hide ((unhide K).trans k3)
  have z4 := k3.size
  clear k3
  clear ml
  have kn := (Kept.refl 0 0 w3).alloc (.cells #[.int .i64 fk, .bool fn, .int .i64 fm, .int .i64 fe] 25)
  have cf0 : (w3.alloc (.cells #[.int .i64 fk, .bool fn, .int .i64 fm, .int .i64 fe] 25)).cell? ⟨w3.heap.size, 0, none⟩ = some (.int .i64 fk) := new_cell2 _ _ _ _ _ _ (by simp) rfl
  have cf1 : (w3.alloc (.cells #[.int .i64 fk, .bool fn, .int .i64 fm, .int .i64 fe] 25)).cell? ⟨w3.heap.size, 1, none⟩ = some (.bool fn) := new_cell2 _ _ _ _ _ _ (by simp) rfl
  have cf2 : (w3.alloc (.cells #[.int .i64 fk, .bool fn, .int .i64 fm, .int .i64 fe] 25)).cell? ⟨w3.heap.size, 2, none⟩ = some (.int .i64 fm) := new_cell2 _ _ _ _ _ _ (by simp) rfl
  have cf3 : (w3.alloc (.cells #[.int .i64 fk, .bool fn, .int .i64 fm, .int .i64 fe] 25)).cell? ⟨w3.heap.size, 3, none⟩ = some (.int .i64 fe) := new_cell2 _ _ _ _ _ _ (by simp) rfl
  have sz5 : w3.heap.size + 1 ≤ (w3.alloc (.cells #[.int .i64 fk, .bool fn, .int .i64 fm, .int .i64 fe] 25)).heap.size := by simp
  replace r := r.kept kn (.inr (.inr (Nat.le_refl 0)))
  replace K := hide ((unhide K).trans kn)
  have z6 := kn.size
  clear kn
  go_wp2_with fail
  generalize (w3.alloc (.cells #[.int .i64 fk, .bool fn, .int .i64 fm, .int .i64 fe] 25)) = wn7 at *
  refine (drawToInt_any _ r hb).mono ?_
  rintro e w8 ⟨gk, gn, gm, ge, how, rfl, hm3, hm4, k8⟩
  replace r := r.kept k8 (.inr (.inr (Nat.le_refl 0)))
  replace cf0 := k8.cell0 cf0
  replace cf1 := k8.cell0 cf1
  replace cf2 := k8.cell0 cf2
  replace cf3 := k8.cell0 cf3
  replace K := hide ((unhide K).trans k8)
  have z9 := k8.size
  clear k8
  clear r
  have kn := (Kept.refl 0 0 w8).alloc (.cells #[.int .i64 gk, .bool gn, .int .i64 gm, .int .i64 ge] 25)
  have cg0 : (w8.alloc (.cells #[.int .i64 gk, .bool gn, .int .i64 gm, .int .i64 ge] 25)).cell? ⟨w8.heap.size, 0, none⟩ = some (.int .i64 gk) := new_cell2 _ _ _ _ _ _ (by simp) rfl
  have cg1 : (w8.alloc (.cells #[.int .i64 gk, .bool gn, .int .i64 gm, .int .i64 ge] 25)).cell? ⟨w8.heap.size, 1, none⟩ = some (.bool gn) := new_cell2 _ _ _ _ _ _ (by simp) rfl
  have cg2 : (w8.alloc (.cells #[.int .i64 gk, .bool gn, .int .i64 gm, .int .i64 ge] 25)).cell? ⟨w8.heap.size, 2, none⟩ = some (.int .i64 gm) := new_cell2 _ _ _ _ _ _ (by simp) rfl
  have cg3 : (w8.alloc (.cells #[.int .i64 gk, .bool gn, .int .i64 gm, .int .i64 ge] 25)).cell? ⟨w8.heap.size, 3, none⟩ = some (.int .i64 ge) := new_cell2 _ _ _ _ _ _ (by simp) rfl
  have sz10 : w8.heap.size + 1 ≤ (w8.alloc (.cells #[.int .i64 gk, .bool gn, .int .i64 gm, .int .i64 ge] 25)).heap.size := by simp
  replace cf0 := kn.cell0 cf0
  replace cf1 := kn.cell0 cf1
  replace cf2 := kn.cell0 cf2
  replace cf3 := kn.cell0 cf3
  replace K := hide ((unhide K).trans kn)
  have z11 := kn.size
  clear kn
  go_wp2_with fail
  generalize (w8.alloc (.cells #[.int .i64 gk, .bool gn, .int .i64 gm, .int .i64 ge] 25)) = wn12 at *
  obtain ⟨S2, hS2⟩ : ∃ y, tiS gk gn gm ge how = y := ⟨_, rfl⟩
  obtain ⟨L2, hL2⟩ : ∃ y, tiL gk gn gm ge how = y := ⟨_, rfl⟩
  obtain ⟨B2, hB2⟩ : ∃ y, tiB gk gn gm ge how = y := ⟨_, rfl⟩
  have mt := fun (w : World) (T : TabB w) => ftoint_impl gk gn gm ge how w T
  simp only [hS2, hL2, hB2] at mt
  replace mt := hide mt
  obtain ⟨S3, hS3⟩ : ∃ y, ansDS (fdyB gk gn gm ge) (fM gk gn gm) ge = y := ⟨_, rfl⟩
  obtain ⟨L3, hL3⟩ : ∃ y, ansDL (fdyB gk gn gm ge) (fM gk gn gm) ge = y := ⟨_, rfl⟩
  obtain ⟨E3, hE3⟩ : ∃ y, ansDE (fdyB gk gn gm ge) (fM gk gn gm) ge = y := ⟨_, rfl⟩
  obtain ⟨D3, hD3⟩ : ∃ y, ansDB (fdyB gk gn gm ge) (fM gk gn gm) ge = y := ⟨_, rfl⟩
  have mf := fun (w : World) (T : TabB w) => fldy_impl gk gn gm ge w T
  simp only [hS3, hL3, hE3, hD3] at mf
  replace mf := hide mf
  have HN : Hid (B2 = false → D3 = true → how < 0 ∨ 4 < how) := fun a b => by
    have hd := hD3.trans b
    have hf : fdyB gk gn gm ge = true := by
      unfold ansDB at hd
      rw [Bool.and_eq_true] at hd
      exact hd.1
    have ht := hB2.trans a
    unfold tiB at ht
    unfold fdyB at hf
    rw [hf, Bool.true_and] at ht
    unfold modeB at ht
    rcases Bool.and_eq_false_iff.1 ht with q | q
    · exact .inl (by have := of_decide_eq_false q; omega)
    · exact .inr (by have := of_decide_eq_false q; omega)
  have HR : Hid (B2 = true → (E3 ≤ 9223372036854775807 ∧ -9223372036854775808 ≤ E3) ∧ (dokB S3 L3 E3 && mayR 0 how) = true ∧ (wokB S2 L2 && l4eB 0) = true ∧ rndM how.toNat S3 (val L3).toNat (E3 - (0 - 1)) = wval S2 L2) := fun a => by
    obtain ⟨r1, r2, r3, r4, r5⟩ := ti_round (hB2.trans a) hS3 hL3 hE3
    rw [hS2, hL2] at r3 r5
    exact ⟨r1, r2, r3, r4.trans r5.symm⟩
  clear hS2 hL2 hB2 hS3 hL3 hE3 hD3
  refine (unhide mt _ ((unhide HT).kept (unhide K))).mono ?_
  rintro e w13 ⟨v2, rfl, r2, k13⟩
  replace cf0 := k13.cell0 cf0
  replace cf1 := k13.cell0 cf1
  replace cf2 := k13.cell0 cf2
  replace cf3 := k13.cell0 cf3
  replace cg0 := k13.cell0 cg0
  replace cg1 := k13.cell0 cg1
  replace cg2 := k13.cell0 cg2
  replace cg3 := k13.cell0 cg3
  replace K := hide ((unhide K).trans k13)
  have z14 := k13.size
  clear k13
  clear mt
  obtain ⟨a2, c2, hv⟩ := Row.form' r2
  subst hv
  by_cases hmd : 0 ≤ md ∧ md ≤ 4
  · obtain ⟨h7, h8⟩ := hmd
    obtain ⟨l1, l2, l3⟩ := unhide HL h7 h8
    clear HL
    obtain ⟨S1, hS1⟩ : ∃ y, tiS fk fn fm fe 1 = y := ⟨_, rfl⟩
    obtain ⟨L1, hL1⟩ : ∃ y, tiL fk fn fm fe 1 = y := ⟨_, rfl⟩
    have mt := fun (w : World) (T : TabB w) => ftoint_impl fk fn fm fe 1 w T
    simp only [hS1, hL1, l1] at mt
    rw [hS1, hL1] at l2
    replace mt := hide mt
    have LL2 := hide l2
    have LL3 := hide l3
    clear l1 l2 l3 hS1 hL1
    have kn := (Kept.refl 0 0 w13).alloc (.cells #[.bool S2, .slice a2 L2.length c2] 40)
    have ck0 : (w13.alloc (.cells #[.bool S2, .slice a2 L2.length c2] 40)).cell? ⟨w13.heap.size, 0, none⟩ = some (.bool S2) := new_cell2 _ _ _ _ _ _ (by simp) rfl
    have ck1 : (w13.alloc (.cells #[.bool S2, .slice a2 L2.length c2] 40)).cell? ⟨w13.heap.size, 1, none⟩ = some (.slice a2 L2.length c2) := new_cell2 _ _ _ _ _ _ (by simp) rfl
    have sz15 : w13.heap.size + 1 ≤ (w13.alloc (.cells #[.bool S2, .slice a2 L2.length c2] 40)).heap.size := by simp
    replace r2 := r2.kept kn (.inr (.inr (Nat.le_refl 0)))
    replace cf0 := kn.cell0 cf0
    replace cf1 := kn.cell0 cf1
    replace cf2 := kn.cell0 cf2
    replace cf3 := kn.cell0 cf3
    replace cg0 := kn.cell0 cg0
    replace cg1 := kn.cell0 cg1
    replace cg2 := kn.cell0 cg2
    replace cg3 := kn.cell0 cg3
    replace K := hide ((unhide K).trans kn)
    have z16 := kn.size
    clear kn
    go_wp2_with fail
    generalize (w13.alloc (.cells #[.bool S2, .slice a2 L2.length c2] 40)) = wn17 at *
    refine (unhide mt _ ((unhide HT).kept (unhide K))).mono ?_
    rintro e w18 ⟨v1, rfl, r1, k18⟩
    replace r2 := r2.kept k18 (.inr (.inr (Nat.le_refl 0)))
    replace cf0 := k18.cell0 cf0
    replace cf1 := k18.cell0 cf1
    replace cf2 := k18.cell0 cf2
    replace cf3 := k18.cell0 cf3
    replace cg0 := k18.cell0 cg0
    replace cg1 := k18.cell0 cg1
    replace cg2 := k18.cell0 cg2
    replace cg3 := k18.cell0 cg3
    replace ck0 := k18.cell0 ck0
    replace ck1 := k18.cell0 ck1
    replace K := hide ((unhide K).trans k18)
    have z19 := k18.size
    clear k18
    clear mt
    obtain ⟨a1, c1, hv⟩ := Row.form' r1
    subst hv
    have kn := (Kept.refl 0 0 w18).alloc (.cells #[.bool S1, .slice a1 L1.length c1] 40)
    have cx0 : (w18.alloc (.cells #[.bool S1, .slice a1 L1.length c1] 40)).cell? ⟨w18.heap.size, 0, none⟩ = some (.bool S1) := new_cell2 _ _ _ _ _ _ (by simp) rfl
    have cx1 : (w18.alloc (.cells #[.bool S1, .slice a1 L1.length c1] 40)).cell? ⟨w18.heap.size, 1, none⟩ = some (.slice a1 L1.length c1) := new_cell2 _ _ _ _ _ _ (by simp) rfl
    replace r2 := r2.kept kn (.inr (.inr (Nat.le_refl 0)))
    replace r1 := r1.kept kn (.inr (.inr (Nat.le_refl 0)))
    replace cf0 := kn.cell0 cf0
    replace cf1 := kn.cell0 cf1
    replace cf2 := kn.cell0 cf2
    replace cf3 := kn.cell0 cf3
    replace cg0 := kn.cell0 cg0
    replace cg1 := kn.cell0 cg1
    replace cg2 := kn.cell0 cg2
    replace cg3 := kn.cell0 cg3
    replace ck0 := kn.cell0 ck0
    replace ck1 := kn.cell0 ck1
    replace K := hide ((unhide K).trans kn)
    have z20 := kn.size
    clear kn
    go_upto_region 7 with fail
    generalize w18.alloc (.cells #[.bool S1, .slice a1 L1.length c1] 40) = wz at *
    by_cases hG : G = 0
    · obtain ⟨e1, e2⟩ := unhide LL2 hG
      clear LL2 LL3
      subst hG e1 e2
      rcases (show n ≤ -9007199254740992 ∨ 9007199254740992 ≤ n ∨ (-9007199254740992 < n ∧ n < 9007199254740992) by omega) with hr | hr | hr
      · have g1 : ¬ -9007199254740992 < n := by omega
        have kd := (Kept.refl 0 0 wz).drew
        replace r2 := r2.kept kd (.inr (.inr (Nat.le_refl 0)))
        replace r1 := r1.kept kd (.inr (.inr (Nat.le_refl 0)))
        replace cf0 := kd.cell0 cf0
        replace cf1 := kd.cell0 cf1
        replace cf2 := kd.cell0 cf2
        replace cf3 := kd.cell0 cf3
        replace cg0 := kd.cell0 cg0
        replace cg1 := kd.cell0 cg1
        replace cg2 := kd.cell0 cg2
        replace cg3 := kd.cell0 cg3
        replace ck0 := kd.cell0 ck0
        replace ck1 := kd.cell0 ck1
        replace cx0 := kd.cell0 cx0
        replace cx1 := kd.cell0 cx1
        replace K := hide ((unhide K).trans kd)
        have z21 := kd.size
        clear kd
        refine wp_region_held_drew (S := (fun w' => w'.cell? ⟨w18.heap.size, 0, none⟩ = some (.bool (wsg n)) ∧ w'.cell? ⟨w18.heap.size, 1, none⟩ = some (.slice a1 (wlm n).length c1))) (by kernel_rfl) ?_ (fun hHeld => ?_)
        · exact ⟨cx0, cx1⟩
        refine wpAnyH_take (i := 0) (oi := _) (v := .bool true) rfl (by kernel_rfl) (by kernel_rfl) (by kernel_rfl) (fun _ _ _ h => h) (Or.inl ⟨by rfl, ?_⟩) hHeld ?_
        · intro wq hSw
          try dsimp only at hSw
          go_simp
        try simp only [Act.put, List.getElem_toArray, List.getElem_cons_succ, List.getElem_cons_zero, List.setIfInBounds_toArray, List.set_cons_zero, List.set_cons_succ]
        refine wpAnyH_take (i := 1) (oi := _) (v := .bool false) rfl (by kernel_rfl) (by kernel_rfl) (by kernel_rfl) (fun _ _ _ h => h) (Or.inl ⟨by rfl, ?_⟩) hHeld ?_
        · intro wq hSw
          try dsimp only at hSw
          go_simp
        try simp only [Act.put, List.getElem_toArray, List.getElem_cons_succ, List.getElem_cons_zero, List.setIfInBounds_toArray, List.set_cons_zero, List.set_cons_succ]
        refine wpAnyH_take (i := 2) (oi := _) (v := .bool false) rfl (by kernel_rfl) (by kernel_rfl) (by kernel_rfl) (fun _ _ _ h => h) (Or.inl ⟨by rfl, ?_⟩) hHeld ?_
        · intro wq hSw
          try dsimp only at hSw
          go_simp
        try simp only [Act.put, List.getElem_toArray, List.getElem_cons_succ, List.getElem_cons_zero, List.setIfInBounds_toArray, List.set_cons_zero, List.set_cons_succ]
        refine wpAnyH_take (i := 3) (oi := _) (v := .int .i64 0) rfl (by kernel_rfl) (by kernel_rfl) (by kernel_rfl) (fun _ _ _ h => h) (Or.inl ⟨by rfl, ?_⟩) hHeld ?_
        · intro wq hSw
          try dsimp only at hSw
          go_simp
        try simp only [Act.put, List.getElem_toArray, List.getElem_cons_succ, List.getElem_cons_zero, List.setIfInBounds_toArray, List.set_cons_zero, List.set_cons_succ]
        refine wpAnyH_take (i := 4) (oi := _) (v := .bool true) rfl (by kernel_rfl) (by kernel_rfl) (by kernel_rfl) (fun _ _ _ h => h) (Or.inl ⟨by rfl, ?_⟩) hHeld ?_
        · intro wq hSw
          try dsimp only at hSw
          go_simp
        try simp only [Act.put, List.getElem_toArray, List.getElem_cons_succ, List.getElem_cons_zero, List.setIfInBounds_toArray, List.set_cons_zero, List.set_cons_succ]
        refine wpAnyH_take (i := 5) (oi := _) (v := .bool true) rfl (by kernel_rfl) (by kernel_rfl) (by kernel_rfl) (fun _ _ _ h => h) (Or.inl ⟨by rfl, ?_⟩) hHeld ?_
        · intro wq hSw
          try dsimp only at hSw
          go_simp
        try simp only [Act.put, List.getElem_toArray, List.getElem_cons_succ, List.getElem_cons_zero, List.setIfInBounds_toArray, List.set_cons_zero, List.set_cons_succ]
        refine wpAnyH_take (i := 6) (oi := _) (v := .agg #[.bool (wsg n), .slice a1 (wlm n).length c1]) rfl (by kernel_rfl) (by kernel_rfl) (by kernel_rfl) (fun _ _ _ h => h) (Or.inl ⟨by rfl, ?_⟩) hHeld ?_
        · intro wq hSw
          try dsimp only at hSw
          go_simp
        try simp only [Act.put, List.getElem_toArray, List.getElem_cons_succ, List.getElem_cons_zero, List.setIfInBounds_toArray, List.set_cons_zero, List.set_cons_succ]
        refine wpAnyH_take (i := 7) (oi := _) (v := .int .i64 n) rfl (by kernel_rfl) (by kernel_rfl) (by kernel_rfl) (fun _ _ _ h => h) (Or.inl ⟨by rfl, ?_⟩) hHeld ?_
        · intro wq hSw
          try dsimp only at hSw
          go_simp
        try simp only [Act.put, List.getElem_toArray, List.getElem_cons_succ, List.getElem_cons_zero, List.setIfInBounds_toArray, List.set_cons_zero, List.set_cons_succ]
        refine wpAnyH_ready (rs := [8]) (by kernel_rfl) (by simp) ?_
        refine AllReadyH.cons rfl (fun KK hK => ?_) AllReadyH.nil
        simp only [List.getElem_toArray, List.getElem_cons_succ, List.getElem_cons_zero]
        rw [if_pos (by rfl)]
        refine wps1 34 (.tmp 60) _ rfl in_WholeOf_g (.int .i64 n) rfl (wOf_spec n hn1 hn0 _) ?_
        rintro e w22 ⟨v9, rfl, r9, k22⟩
        refine ⟨_, rfl, ?_⟩
        replace r2 := r2.kept k22 (.inr (.inr (Nat.le_refl 0)))
        replace r1 := r1.kept k22 (.inr (.inr (Nat.le_refl 0)))
        replace cf0 := k22.cell0 cf0
        replace cf1 := k22.cell0 cf1
        replace cf2 := k22.cell0 cf2
        replace cf3 := k22.cell0 cf3
        replace cg0 := k22.cell0 cg0
        replace cg1 := k22.cell0 cg1
        replace cg2 := k22.cell0 cg2
        replace cg3 := k22.cell0 cg3
        replace ck0 := k22.cell0 ck0
        replace ck1 := k22.cell0 ck1
        replace cx0 := k22.cell0 cx0
        replace cx1 := k22.cell0 cx1
        replace K := hide ((unhide K).trans k22)
        have z23 := k22.size
        clear k22
        clear hHeld
        refine hK.out _ _ ?_ (fun hHeld => ?_)
        · exact ⟨cx0, cx1⟩
        clear hK KK
        try simp only [Act.put, List.getElem_toArray, List.getElem_cons_succ, List.getElem_cons_zero, List.setIfInBounds_toArray, List.set_cons_zero, List.set_cons_succ]
        obtain ⟨a9, c9, hv⟩ := Row.form' r9
        subst hv
        refine wpAnyH_ready (rs := [9]) (by kernel_rfl) (by simp) ?_
        refine AllReadyH.cons rfl (fun KK hK => ?_) AllReadyH.nil
        simp only [List.getElem_toArray, List.getElem_cons_succ, List.getElem_cons_zero]
        rw [if_pos (by rfl)]
        refine wps2 33 (.tmp 59) (.tmp 61) _ rfl in_sameWhole_g (.agg #[.bool (wsg n), .slice a1 (wlm n).length c1]) (.agg #[.bool (wsg n), .slice a9 (wlm n).length c9]) rfl rfl (sameWhole_one (wsg n) _ r1 r9) ?_
        rintro e w24 ⟨rfl, k24⟩
        refine ⟨_, rfl, ?_⟩
        replace r2 := r2.kept k24 (.inr (.inr (Nat.le_refl 0)))
        replace r1 := r1.kept k24 (.inr (.inr (Nat.le_refl 0)))
        replace r9 := r9.kept k24 (.inr (.inr (Nat.le_refl 0)))
        replace cf0 := k24.cell0 cf0
        replace cf1 := k24.cell0 cf1
        replace cf2 := k24.cell0 cf2
        replace cf3 := k24.cell0 cf3
        replace cg0 := k24.cell0 cg0
        replace cg1 := k24.cell0 cg1
        replace cg2 := k24.cell0 cg2
        replace cg3 := k24.cell0 cg3
        replace ck0 := k24.cell0 ck0
        replace ck1 := k24.cell0 ck1
        replace cx0 := k24.cell0 cx0
        replace cx1 := k24.cell0 cx1
        replace K := hide ((unhide K).trans k24)
        have z25 := k24.size
        clear k24
        clear hHeld
        refine hK.out _ _ ?_ (fun hHeld => ?_)
        · exact ⟨cx0, cx1⟩
        clear hK KK
        try simp only [Act.put, List.getElem_toArray, List.getElem_cons_succ, List.getElem_cons_zero, List.setIfInBounds_toArray, List.set_cons_zero, List.set_cons_succ]
        refine wpAnyH_take (i := 10) (oi := _) (v := .bool false) rfl (by kernel_rfl) (by kernel_rfl) (by kernel_rfl) (fun _ _ _ h => h) (Or.inl ⟨by rfl, ?_⟩) hHeld ?_
        · intro wq hSw
          try dsimp only at hSw
          go_simp
        try simp only [Act.put, List.getElem_toArray, List.getElem_cons_succ, List.getElem_cons_zero, List.setIfInBounds_toArray, List.set_cons_zero, List.set_cons_succ]
        refine wpAnyH_take (i := 11) (oi := _) (v := .bool false) rfl (by kernel_rfl) (by kernel_rfl) (by kernel_rfl) (fun _ _ _ h => h) (Or.inl ⟨by rfl, ?_⟩) hHeld ?_
        · intro wq hSw
          try dsimp only at hSw
          go_simp
        try simp only [Act.put, List.getElem_toArray, List.getElem_cons_succ, List.getElem_cons_zero, List.setIfInBounds_toArray, List.set_cons_zero, List.set_cons_succ]
        refine wpAnyH_take (i := 12) (oi := _) (v := .bool false) rfl (by kernel_rfl) (by kernel_rfl) (by kernel_rfl) (fun _ _ _ h => h) (Or.inl ⟨by rfl, ?_⟩) hHeld ?_
        · intro wq hSw
          try dsimp only at hSw
          go_simp
        try simp only [Act.put, List.getElem_toArray, List.getElem_cons_succ, List.getElem_cons_zero, List.setIfInBounds_toArray, List.set_cons_zero, List.set_cons_succ]
        refine wpAnyH_take (i := 13) (oi := _) (v := .bool false) rfl (by kernel_rfl) (by kernel_rfl) (by kernel_rfl) (fun _ _ _ h => h) (Or.inl ⟨by rfl, ?_⟩) hHeld ?_
        · intro wq hSw
          try dsimp only at hSw
          go_simp
        try simp only [Act.put, List.getElem_toArray, List.getElem_cons_succ, List.getElem_cons_zero, List.setIfInBounds_toArray, List.set_cons_zero, List.set_cons_succ]
        refine wpAnyH_take (i := 14) (oi := _) (v := .int .i64 n) rfl (by kernel_rfl) (by kernel_rfl) (by kernel_rfl) (fun _ _ _ h => h) (Or.inl ⟨by rfl, ?_⟩) hHeld ?_
        · intro wq hSw
          try dsimp only at hSw
          go_simp
        try simp only [Act.put, List.getElem_toArray, List.getElem_cons_succ, List.getElem_cons_zero, List.setIfInBounds_toArray, List.set_cons_zero, List.set_cons_succ]
        refine wpAnyH_take (i := 15) (oi := _) (v := .bool false) rfl (by kernel_rfl) (by kernel_rfl) (by kernel_rfl) (fun _ _ _ h => h) (Or.inl ⟨by rfl, ?_⟩) hHeld ?_
        · intro wq hSw
          try dsimp only at hSw
          go_simp
        try simp only [Act.put, List.getElem_toArray, List.getElem_cons_succ, List.getElem_cons_zero, List.setIfInBounds_toArray, List.set_cons_zero, List.set_cons_succ]
        refine wpAnyH_take (i := 16) (oi := _) (v := .bool false) rfl (by kernel_rfl) (by kernel_rfl) (by kernel_rfl) (fun _ _ _ h => h) (Or.inl ⟨by rfl, ?_⟩) hHeld ?_
        · intro wq hSw
          try dsimp only at hSw
          go_simp
        try simp only [Act.put, List.getElem_toArray, List.getElem_cons_succ, List.getElem_cons_zero, List.setIfInBounds_toArray, List.set_cons_zero, List.set_cons_succ]
        refine wpAnyH_take (i := 17) (v := undef) rfl (by kernel_rfl) (by kernel_rfl) (by kernel_rfl) (fun _ _ _ h => h) (Or.inr ⟨by rfl, rfl⟩) hHeld ?_
        try simp only [Act.put, List.getElem_toArray, List.getElem_cons_succ, List.getElem_cons_zero, List.setIfInBounds_toArray, List.set_cons_zero, List.set_cons_succ]
        refine wpAnyH_take (i := 18) (v := undef) rfl (by kernel_rfl) (by kernel_rfl) (by kernel_rfl) (fun _ _ _ h => h) (Or.inr ⟨by rfl, rfl⟩) hHeld ?_
        try simp only [Act.put, List.getElem_toArray, List.getElem_cons_succ, List.getElem_cons_zero, List.setIfInBounds_toArray, List.set_cons_zero, List.set_cons_succ]
        refine wpAnyH_take (i := 19) (oi := _) (v := .bool false) rfl (by kernel_rfl) (by kernel_rfl) (by kernel_rfl) (fun _ _ _ h => h) (Or.inl ⟨by rfl, ?_⟩) hHeld ?_
        · intro wq hSw
          try dsimp only at hSw
          go_simp
        try simp only [Act.put, List.getElem_toArray, List.getElem_cons_succ, List.getElem_cons_zero, List.setIfInBounds_toArray, List.set_cons_zero, List.set_cons_succ]
        refine wpAnyH_take (i := 20) (oi := _) (v := .bool false) rfl (by kernel_rfl) (by kernel_rfl) (by kernel_rfl) (fun _ _ _ h => h) (Or.inl ⟨by rfl, ?_⟩) hHeld ?_
        · intro wq hSw
          try dsimp only at hSw
          go_simp
        try simp only [Act.put, List.getElem_toArray, List.getElem_cons_succ, List.getElem_cons_zero, List.setIfInBounds_toArray, List.set_cons_zero, List.set_cons_succ]
        refine wpAnyH_take (i := 21) (v := undef) rfl (by kernel_rfl) (by kernel_rfl) (by kernel_rfl) (fun _ _ _ h => h) (Or.inr ⟨by rfl, rfl⟩) hHeld ?_
        try simp only [Act.put, List.getElem_toArray, List.getElem_cons_succ, List.getElem_cons_zero, List.setIfInBounds_toArray, List.set_cons_zero, List.set_cons_succ]
        refine wpAnyH_take (i := 22) (v := undef) rfl (by kernel_rfl) (by kernel_rfl) (by kernel_rfl) (fun _ _ _ h => h) (Or.inr ⟨by rfl, rfl⟩) hHeld ?_
        try simp only [Act.put, List.getElem_toArray, List.getElem_cons_succ, List.getElem_cons_zero, List.setIfInBounds_toArray, List.set_cons_zero, List.set_cons_succ]
        refine wpAnyH_take (i := 23) (oi := _) (v := .bool false) rfl (by kernel_rfl) (by kernel_rfl) (by kernel_rfl) (fun _ _ _ h => h) (Or.inl ⟨by rfl, ?_⟩) hHeld ?_
        · intro wq hSw
          try dsimp only at hSw
          go_simp
        try simp only [Act.put, List.getElem_toArray, List.getElem_cons_succ, List.getElem_cons_zero, List.setIfInBounds_toArray, List.set_cons_zero, List.set_cons_succ]
        refine wpAnyH_take (i := 24) (oi := _) (v := .bool false) rfl (by kernel_rfl) (by kernel_rfl) (by kernel_rfl) (fun _ _ _ h => h) (Or.inl ⟨by rfl, ?_⟩) hHeld ?_
        · intro wq hSw
          try dsimp only at hSw
          go_simp
        try simp only [Act.put, List.getElem_toArray, List.getElem_cons_succ, List.getElem_cons_zero, List.setIfInBounds_toArray, List.set_cons_zero, List.set_cons_succ]
        refine wpAnyH_done (by kernel_rfl) ?_ _
        clear hHeld
        clear r9
        clear r1
        go_wp2_with fail
        refine (unhide mf _ ((unhide HT).kept (unhide K))).mono ?_
        rintro e w26 ⟨v3, rfl, r3, k26⟩
        replace r2 := r2.kept k26 (.inr (.inr (Nat.le_refl 0)))
        replace cf0 := k26.cell0 cf0
        replace cf1 := k26.cell0 cf1
        replace cf2 := k26.cell0 cf2
        replace cf3 := k26.cell0 cf3
        replace cg0 := k26.cell0 cg0
        replace cg1 := k26.cell0 cg1
        replace cg2 := k26.cell0 cg2
        replace cg3 := k26.cell0 cg3
        replace ck0 := k26.cell0 ck0
        replace ck1 := k26.cell0 ck1
        replace cx0 := k26.cell0 cx0
        replace cx1 := k26.cell0 cx1
        replace K := hide ((unhide K).trans k26)
        have z27 := k26.size
        clear k26
        clear mf
        obtain ⟨a3, c3, hv⟩ := Row.form' r3
        subst hv
        cases B2
        · clear HR
          cases D3
          · clear HN
            clear r2 r3
            have kn := (Kept.refl 0 0 w26).alloc (.cells #[.bool S3, .slice a3 L3.length c3, .int .i64 E3] 42)
            have cd0 : (w26.alloc (.cells #[.bool S3, .slice a3 L3.length c3, .int .i64 E3] 42)).cell? ⟨w26.heap.size, 0, none⟩ = some (.bool S3) := new_cell2 _ _ _ _ _ _ (by simp) rfl
            have cd1 : (w26.alloc (.cells #[.bool S3, .slice a3 L3.length c3, .int .i64 E3] 42)).cell? ⟨w26.heap.size, 1, none⟩ = some (.slice a3 L3.length c3) := new_cell2 _ _ _ _ _ _ (by simp) rfl
            have cd2 : (w26.alloc (.cells #[.bool S3, .slice a3 L3.length c3, .int .i64 E3] 42)).cell? ⟨w26.heap.size, 2, none⟩ = some (.int .i64 E3) := new_cell2 _ _ _ _ _ _ (by simp) rfl
            have sz28 : w26.heap.size + 1 ≤ (w26.alloc (.cells #[.bool S3, .slice a3 L3.length c3, .int .i64 E3] 42)).heap.size := by simp
            replace cf0 := kn.cell0 cf0
            replace cf1 := kn.cell0 cf1
            replace cf2 := kn.cell0 cf2
            replace cf3 := kn.cell0 cf3
            replace cg0 := kn.cell0 cg0
            replace cg1 := kn.cell0 cg1
            replace cg2 := kn.cell0 cg2
            replace cg3 := kn.cell0 cg3
            replace ck0 := kn.cell0 ck0
            replace ck1 := kn.cell0 ck1
            replace cx0 := kn.cell0 cx0
            replace cx1 := kn.cell0 cx1
            replace K := hide ((unhide K).trans kn)
            have z29 := kn.size
            clear kn
            go_wp2_with fail
            generalize (w26.alloc (.cells #[.bool S3, .slice a3 L3.length c3, .int .i64 E3] 42)) = wn30 at *
            go_ret
            exact ⟨rfl, (unhide K).toBelow⟩
          rcases unhide HN rfl rfl with ho | ho
          · clear HN
            clear r2 r3
            have kn := (Kept.refl 0 0 w26).alloc (.cells #[.bool S3, .slice a3 L3.length c3, .int .i64 E3] 42)
            have cd0 : (w26.alloc (.cells #[.bool S3, .slice a3 L3.length c3, .int .i64 E3] 42)).cell? ⟨w26.heap.size, 0, none⟩ = some (.bool S3) := new_cell2 _ _ _ _ _ _ (by simp) rfl
            have cd1 : (w26.alloc (.cells #[.bool S3, .slice a3 L3.length c3, .int .i64 E3] 42)).cell? ⟨w26.heap.size, 1, none⟩ = some (.slice a3 L3.length c3) := new_cell2 _ _ _ _ _ _ (by simp) rfl
            have cd2 : (w26.alloc (.cells #[.bool S3, .slice a3 L3.length c3, .int .i64 E3] 42)).cell? ⟨w26.heap.size, 2, none⟩ = some (.int .i64 E3) := new_cell2 _ _ _ _ _ _ (by simp) rfl
            have sz28 : w26.heap.size + 1 ≤ (w26.alloc (.cells #[.bool S3, .slice a3 L3.length c3, .int .i64 E3] 42)).heap.size := by simp
            replace cf0 := kn.cell0 cf0
            replace cf1 := kn.cell0 cf1
            replace cf2 := kn.cell0 cf2
            replace cf3 := kn.cell0 cf3
            replace cg0 := kn.cell0 cg0
            replace cg1 := kn.cell0 cg1
            replace cg2 := kn.cell0 cg2
            replace cg3 := kn.cell0 cg3
            replace ck0 := kn.cell0 ck0
            replace ck1 := kn.cell0 ck1
            replace cx0 := kn.cell0 cx0
            replace cx1 := kn.cell0 cx1
            replace K := hide ((unhide K).trans kn)
            have z29 := kn.size
            clear kn
            go_wp2_with fail
            generalize (w26.alloc (.cells #[.bool S3, .slice a3 L3.length c3, .int .i64 E3] 42)) = wn30 at *
            go_ret
            exact ⟨congrArg (fun b => Ending.returned (.bool b)) (by simp [ho]), (unhide K).toBelow⟩
          · have ho2 : ¬ how < 0 := by omega
            clear HN
            clear r2 r3
            have kn := (Kept.refl 0 0 w26).alloc (.cells #[.bool S3, .slice a3 L3.length c3, .int .i64 E3] 42)
            have cd0 : (w26.alloc (.cells #[.bool S3, .slice a3 L3.length c3, .int .i64 E3] 42)).cell? ⟨w26.heap.size, 0, none⟩ = some (.bool S3) := new_cell2 _ _ _ _ _ _ (by simp) rfl
            have cd1 : (w26.alloc (.cells #[.bool S3, .slice a3 L3.length c3, .int .i64 E3] 42)).cell? ⟨w26.heap.size, 1, none⟩ = some (.slice a3 L3.length c3) := new_cell2 _ _ _ _ _ _ (by simp) rfl
            have cd2 : (w26.alloc (.cells #[.bool S3, .slice a3 L3.length c3, .int .i64 E3] 42)).cell? ⟨w26.heap.size, 2, none⟩ = some (.int .i64 E3) := new_cell2 _ _ _ _ _ _ (by simp) rfl
            have sz28 : w26.heap.size + 1 ≤ (w26.alloc (.cells #[.bool S3, .slice a3 L3.length c3, .int .i64 E3] 42)).heap.size := by simp
            replace cf0 := kn.cell0 cf0
            replace cf1 := kn.cell0 cf1
            replace cf2 := kn.cell0 cf2
            replace cf3 := kn.cell0 cf3
            replace cg0 := kn.cell0 cg0
            replace cg1 := kn.cell0 cg1
            replace cg2 := kn.cell0 cg2
            replace cg3 := kn.cell0 cg3
            replace ck0 := kn.cell0 ck0
            replace ck1 := kn.cell0 ck1
            replace cx0 := kn.cell0 cx0
            replace cx1 := kn.cell0 cx1
            replace K := hide ((unhide K).trans kn)
            have z29 := kn.size
            clear kn
            go_wp2_with fail
            generalize (w26.alloc (.cells #[.bool S3, .slice a3 L3.length c3, .int .i64 E3] 42)) = wn30 at *
            go_ret
            exact ⟨congrArg (fun b => Ending.returned (.bool b)) (by simp [ho]), (unhide K).toBelow⟩
        obtain ⟨⟨q1, q2⟩, q3, q4, q5⟩ := unhide HR rfl
        clear HR HN
        have mr := fun (w : World) (T : TabB w) (r : Row .i64 true 0 w.heap.size w (.slice a3 L3.length c3) L3) => dround_impl S3 E3 q1 q2 0 how w r T
        have mo := fun (w : World) (r : Row .i64 true 0 w.heap.size w (.slice a2 L2.length c2) L2) => dof_spec S2 0 w r
        simp only [q3, q5] at mr
        simp only [q4] at mo
        obtain ⟨S5, hS5⟩ : ∃ y, ansDS true (wval S2 L2) 0 = y := ⟨_, rfl⟩
        obtain ⟨L5, hL5⟩ : ∃ y, ansDL true (wval S2 L2) 0 = y := ⟨_, rfl⟩
        obtain ⟨E5, hE5⟩ : ∃ y, ansDE true (wval S2 L2) 0 = y := ⟨_, rfl⟩
        obtain ⟨B5, hB5⟩ : ∃ y, ansDB true (wval S2 L2) 0 = y := ⟨_, rfl⟩
        obtain ⟨X5, hX5⟩ : ∃ y, (true && rndX (scN (val L3).toNat (E3 - (0 - 1))) (scL (val L3).toNat (E3 - (0 - 1)))) = y := ⟨_, rfl⟩
        simp only [hS5, hL5, hE5, hB5, hX5] at mr
        simp only [hS5, hL5, hE5, hB5] at mo
        replace mr := hide mr
        replace mo := hide mo
        clear hS5 hL5 hE5 hB5 hX5 q1 q2 q3 q4 q5
        have kn := (Kept.refl 0 0 w26).alloc (.cells #[.bool S3, .slice a3 L3.length c3, .int .i64 E3] 42)
        have cd0 : (w26.alloc (.cells #[.bool S3, .slice a3 L3.length c3, .int .i64 E3] 42)).cell? ⟨w26.heap.size, 0, none⟩ = some (.bool S3) := new_cell2 _ _ _ _ _ _ (by simp) rfl
        have cd1 : (w26.alloc (.cells #[.bool S3, .slice a3 L3.length c3, .int .i64 E3] 42)).cell? ⟨w26.heap.size, 1, none⟩ = some (.slice a3 L3.length c3) := new_cell2 _ _ _ _ _ _ (by simp) rfl
        have cd2 : (w26.alloc (.cells #[.bool S3, .slice a3 L3.length c3, .int .i64 E3] 42)).cell? ⟨w26.heap.size, 2, none⟩ = some (.int .i64 E3) := new_cell2 _ _ _ _ _ _ (by simp) rfl
        have sz28 : w26.heap.size + 1 ≤ (w26.alloc (.cells #[.bool S3, .slice a3 L3.length c3, .int .i64 E3] 42)).heap.size := by simp
        replace r2 := r2.kept kn (.inr (.inr (Nat.le_refl 0)))
        replace r3 := r3.kept kn (.inr (.inr (Nat.le_refl 0)))
        replace cf0 := kn.cell0 cf0
        replace cf1 := kn.cell0 cf1
        replace cf2 := kn.cell0 cf2
        replace cf3 := kn.cell0 cf3
        replace cg0 := kn.cell0 cg0
        replace cg1 := kn.cell0 cg1
        replace cg2 := kn.cell0 cg2
        replace cg3 := kn.cell0 cg3
        replace ck0 := kn.cell0 ck0
        replace ck1 := kn.cell0 ck1
        replace cx0 := kn.cell0 cx0
        replace cx1 := kn.cell0 cx1
        replace K := hide ((unhide K).trans kn)
        have z29 := kn.size
        clear kn
        go_wp2_with fail
        generalize (w26.alloc (.cells #[.bool S3, .slice a3 L3.length c3, .int .i64 E3] 42)) = wn30 at *
        refine (unhide mr _ ((unhide HT).kept (unhide K)) (r3.tight.wider (Nat.zero_le _) (Nat.le_refl _))).mono ?_
        rintro e w31 ⟨v5, rfl, r5, k31⟩
        replace r2 := r2.kept k31 (.inr (.inr (Nat.le_refl 0)))
        replace r3 := r3.kept k31 (.inr (.inr (Nat.le_refl 0)))
        replace cf0 := k31.cell0 cf0
        replace cf1 := k31.cell0 cf1
        replace cf2 := k31.cell0 cf2
        replace cf3 := k31.cell0 cf3
        replace cg0 := k31.cell0 cg0
        replace cg1 := k31.cell0 cg1
        replace cg2 := k31.cell0 cg2
        replace cg3 := k31.cell0 cg3
        replace ck0 := k31.cell0 ck0
        replace ck1 := k31.cell0 ck1
        replace cx0 := k31.cell0 cx0
        replace cx1 := k31.cell0 cx1
        replace cd0 := k31.cell0 cd0
        replace cd1 := k31.cell0 cd1
        replace cd2 := k31.cell0 cd2
        replace K := hide ((unhide K).trans k31)
        have z32 := k31.size
        clear k31
        clear mr
        obtain ⟨a5, c5, hv⟩ := Row.form' r5
        subst hv
        clear r3
        have kn := (Kept.refl 0 0 w31).alloc (.cells #[.bool S5, .slice a5 L5.length c5, .int .i64 E5] 42)
        have ce0 : (w31.alloc (.cells #[.bool S5, .slice a5 L5.length c5, .int .i64 E5] 42)).cell? ⟨w31.heap.size, 0, none⟩ = some (.bool S5) := new_cell2 _ _ _ _ _ _ (by simp) rfl
        have ce1 : (w31.alloc (.cells #[.bool S5, .slice a5 L5.length c5, .int .i64 E5] 42)).cell? ⟨w31.heap.size, 1, none⟩ = some (.slice a5 L5.length c5) := new_cell2 _ _ _ _ _ _ (by simp) rfl
        have ce2 : (w31.alloc (.cells #[.bool S5, .slice a5 L5.length c5, .int .i64 E5] 42)).cell? ⟨w31.heap.size, 2, none⟩ = some (.int .i64 E5) := new_cell2 _ _ _ _ _ _ (by simp) rfl
        have sz33 : w31.heap.size + 1 ≤ (w31.alloc (.cells #[.bool S5, .slice a5 L5.length c5, .int .i64 E5] 42)).heap.size := by simp
        replace r2 := r2.kept kn (.inr (.inr (Nat.le_refl 0)))
        replace r5 := r5.kept kn (.inr (.inr (Nat.le_refl 0)))
        replace cf0 := kn.cell0 cf0
        replace cf1 := kn.cell0 cf1
        replace cf2 := kn.cell0 cf2
        replace cf3 := kn.cell0 cf3
        replace cg0 := kn.cell0 cg0
        replace cg1 := kn.cell0 cg1
        replace cg2 := kn.cell0 cg2
        replace cg3 := kn.cell0 cg3
        replace ck0 := kn.cell0 ck0
        replace ck1 := kn.cell0 ck1
        replace cx0 := kn.cell0 cx0
        replace cx1 := kn.cell0 cx1
        replace cd0 := kn.cell0 cd0
        replace cd1 := kn.cell0 cd1
        replace cd2 := kn.cell0 cd2
        replace K := hide ((unhide K).trans kn)
        have z34 := kn.size
        clear kn
        go_wp2_with fail
        generalize (w31.alloc (.cells #[.bool S5, .slice a5 L5.length c5, .int .i64 E5] 42)) = wn35 at *
        refine (unhide mo _ (r2.tight.wider (Nat.zero_le _) (Nat.le_refl _))).mono ?_
        rintro e w36 ⟨v6, rfl, r6, k36⟩
        replace r2 := r2.kept k36 (.inr (.inr (Nat.le_refl 0)))
        replace r5 := r5.kept k36 (.inr (.inr (Nat.le_refl 0)))
        replace cf0 := k36.cell0 cf0
        replace cf1 := k36.cell0 cf1
        replace cf2 := k36.cell0 cf2
        replace cf3 := k36.cell0 cf3
        replace cg0 := k36.cell0 cg0
        replace cg1 := k36.cell0 cg1
        replace cg2 := k36.cell0 cg2
        replace cg3 := k36.cell0 cg3
        replace ck0 := k36.cell0 ck0
        replace ck1 := k36.cell0 ck1
        replace cx0 := k36.cell0 cx0
        replace cx1 := k36.cell0 cx1
        replace cd0 := k36.cell0 cd0
        replace cd1 := k36.cell0 cd1
        replace cd2 := k36.cell0 cd2
        replace ce0 := k36.cell0 ce0
        replace ce1 := k36.cell0 ce1
        replace ce2 := k36.cell0 ce2
        replace K := hide ((unhide K).trans k36)
        have z37 := k36.size
        clear k36
        clear mo
        obtain ⟨a6, c6, hv⟩ := Row.form' r6
        subst hv
        clear r2
        have kn := (Kept.refl 0 0 w36).alloc (.cells #[.bool S5, .slice a6 L5.length c6, .int .i64 E5] 42)
        have ch0 : (w36.alloc (.cells #[.bool S5, .slice a6 L5.length c6, .int .i64 E5] 42)).cell? ⟨w36.heap.size, 0, none⟩ = some (.bool S5) := new_cell2 _ _ _ _ _ _ (by simp) rfl
        have ch1 : (w36.alloc (.cells #[.bool S5, .slice a6 L5.length c6, .int .i64 E5] 42)).cell? ⟨w36.heap.size, 1, none⟩ = some (.slice a6 L5.length c6) := new_cell2 _ _ _ _ _ _ (by simp) rfl
        have ch2 : (w36.alloc (.cells #[.bool S5, .slice a6 L5.length c6, .int .i64 E5] 42)).cell? ⟨w36.heap.size, 2, none⟩ = some (.int .i64 E5) := new_cell2 _ _ _ _ _ _ (by simp) rfl
        have sz38 : w36.heap.size + 1 ≤ (w36.alloc (.cells #[.bool S5, .slice a6 L5.length c6, .int .i64 E5] 42)).heap.size := by simp
        replace r5 := r5.kept kn (.inr (.inr (Nat.le_refl 0)))
        replace r6 := r6.kept kn (.inr (.inr (Nat.le_refl 0)))
        replace cf0 := kn.cell0 cf0
        replace cf1 := kn.cell0 cf1
        replace cf2 := kn.cell0 cf2
        replace cf3 := kn.cell0 cf3
        replace cg0 := kn.cell0 cg0
        replace cg1 := kn.cell0 cg1
        replace cg2 := kn.cell0 cg2
        replace cg3 := kn.cell0 cg3
        replace ck0 := kn.cell0 ck0
        replace ck1 := kn.cell0 ck1
        replace cx0 := kn.cell0 cx0
        replace cx1 := kn.cell0 cx1
        replace cd0 := kn.cell0 cd0
        replace cd1 := kn.cell0 cd1
        replace cd2 := kn.cell0 cd2
        replace ce0 := kn.cell0 ce0
        replace ce1 := kn.cell0 ce1
        replace ce2 := kn.cell0 ce2
        replace K := hide ((unhide K).trans kn)
        have z39 := kn.size
        clear kn
        go_wp2_with fail
        generalize (w36.alloc (.cells #[.bool S5, .slice a6 L5.length c6, .int .i64 E5] 42)) = wn40 at *
        have mk := sameDy_any S5 S5 E5 E5 wn40 r5 r6
        rw [show sameDB S5 L5 E5 S5 L5 E5 = true by unfold sameDB sameL; rw [decide_eq_true rfl, decide_eq_true rfl]; cases S5 <;> rfl] at mk
        refine (mk).mono ?_
        rintro e w41 ⟨rfl, k41⟩
        replace r5 := r5.kept k41 (.inr (.inr (Nat.le_refl 0)))
        replace r6 := r6.kept k41 (.inr (.inr (Nat.le_refl 0)))
        replace cf0 := k41.cell0 cf0
        replace cf1 := k41.cell0 cf1
        replace cf2 := k41.cell0 cf2
        replace cf3 := k41.cell0 cf3
        replace cg0 := k41.cell0 cg0
        replace cg1 := k41.cell0 cg1
        replace cg2 := k41.cell0 cg2
        replace cg3 := k41.cell0 cg3
        replace ck0 := k41.cell0 ck0
        replace ck1 := k41.cell0 ck1
        replace cx0 := k41.cell0 cx0
        replace cx1 := k41.cell0 cx1
        replace cd0 := k41.cell0 cd0
        replace cd1 := k41.cell0 cd1
        replace cd2 := k41.cell0 cd2
        replace ce0 := k41.cell0 ce0
        replace ce1 := k41.cell0 ce1
        replace ce2 := k41.cell0 ce2
        replace ch0 := k41.cell0 ch0
        replace ch1 := k41.cell0 ch1
        replace ch2 := k41.cell0 ch2
        replace K := hide ((unhide K).trans k41)
        have z42 := k41.size
        clear k41
        clear mk r5 r6
        go_wp2_with fail
        go_ret
        exact ⟨rfl, (unhide K).toBelow⟩
      · have g1 : -9007199254740992 < n := by omega
        have g2 : ¬ n < 9007199254740992 := by omega
        have kd := (Kept.refl 0 0 wz).drew
        replace r2 := r2.kept kd (.inr (.inr (Nat.le_refl 0)))
        replace r1 := r1.kept kd (.inr (.inr (Nat.le_refl 0)))
        replace cf0 := kd.cell0 cf0
        replace cf1 := kd.cell0 cf1
        replace cf2 := kd.cell0 cf2
        replace cf3 := kd.cell0 cf3
        replace cg0 := kd.cell0 cg0
        replace cg1 := kd.cell0 cg1
        replace cg2 := kd.cell0 cg2
        replace cg3 := kd.cell0 cg3
        replace ck0 := kd.cell0 ck0
        replace ck1 := kd.cell0 ck1
        replace cx0 := kd.cell0 cx0
        replace cx1 := kd.cell0 cx1
        replace K := hide ((unhide K).trans kd)
        have z21 := kd.size
        clear kd
        refine wp_region_held_drew (S := (fun w' => w'.cell? ⟨w18.heap.size, 0, none⟩ = some (.bool (wsg n)) ∧ w'.cell? ⟨w18.heap.size, 1, none⟩ = some (.slice a1 (wlm n).length c1))) (by kernel_rfl) ?_ (fun hHeld => ?_)
        · exact ⟨cx0, cx1⟩
        refine wpAnyH_take (i := 0) (oi := _) (v := .bool true) rfl (by kernel_rfl) (by kernel_rfl) (by kernel_rfl) (fun _ _ _ h => h) (Or.inl ⟨by rfl, ?_⟩) hHeld ?_
        · intro wq hSw
          try dsimp only at hSw
          go_simp
        try simp only [Act.put, List.getElem_toArray, List.getElem_cons_succ, List.getElem_cons_zero, List.setIfInBounds_toArray, List.set_cons_zero, List.set_cons_succ]
        refine wpAnyH_take (i := 1) (oi := _) (v := .bool false) rfl (by kernel_rfl) (by kernel_rfl) (by kernel_rfl) (fun _ _ _ h => h) (Or.inl ⟨by rfl, ?_⟩) hHeld ?_
        · intro wq hSw
          try dsimp only at hSw
          go_simp
        try simp only [Act.put, List.getElem_toArray, List.getElem_cons_succ, List.getElem_cons_zero, List.setIfInBounds_toArray, List.set_cons_zero, List.set_cons_succ]
        refine wpAnyH_take (i := 2) (oi := _) (v := .bool false) rfl (by kernel_rfl) (by kernel_rfl) (by kernel_rfl) (fun _ _ _ h => h) (Or.inl ⟨by rfl, ?_⟩) hHeld ?_
        · intro wq hSw
          try dsimp only at hSw
          go_simp
        try simp only [Act.put, List.getElem_toArray, List.getElem_cons_succ, List.getElem_cons_zero, List.setIfInBounds_toArray, List.set_cons_zero, List.set_cons_succ]
        refine wpAnyH_take (i := 3) (oi := _) (v := .int .i64 0) rfl (by kernel_rfl) (by kernel_rfl) (by kernel_rfl) (fun _ _ _ h => h) (Or.inl ⟨by rfl, ?_⟩) hHeld ?_
        · intro wq hSw
          try dsimp only at hSw
          go_simp
        try simp only [Act.put, List.getElem_toArray, List.getElem_cons_succ, List.getElem_cons_zero, List.setIfInBounds_toArray, List.set_cons_zero, List.set_cons_succ]
        refine wpAnyH_take (i := 4) (oi := _) (v := .bool true) rfl (by kernel_rfl) (by kernel_rfl) (by kernel_rfl) (fun _ _ _ h => h) (Or.inl ⟨by rfl, ?_⟩) hHeld ?_
        · intro wq hSw
          try dsimp only at hSw
          go_simp
        try simp only [Act.put, List.getElem_toArray, List.getElem_cons_succ, List.getElem_cons_zero, List.setIfInBounds_toArray, List.set_cons_zero, List.set_cons_succ]
        refine wpAnyH_take (i := 5) (oi := _) (v := .bool true) rfl (by kernel_rfl) (by kernel_rfl) (by kernel_rfl) (fun _ _ _ h => h) (Or.inl ⟨by rfl, ?_⟩) hHeld ?_
        · intro wq hSw
          try dsimp only at hSw
          go_simp
        try simp only [Act.put, List.getElem_toArray, List.getElem_cons_succ, List.getElem_cons_zero, List.setIfInBounds_toArray, List.set_cons_zero, List.set_cons_succ]
        refine wpAnyH_take (i := 6) (oi := _) (v := .agg #[.bool (wsg n), .slice a1 (wlm n).length c1]) rfl (by kernel_rfl) (by kernel_rfl) (by kernel_rfl) (fun _ _ _ h => h) (Or.inl ⟨by rfl, ?_⟩) hHeld ?_
        · intro wq hSw
          try dsimp only at hSw
          go_simp
        try simp only [Act.put, List.getElem_toArray, List.getElem_cons_succ, List.getElem_cons_zero, List.setIfInBounds_toArray, List.set_cons_zero, List.set_cons_succ]
        refine wpAnyH_take (i := 7) (oi := _) (v := .int .i64 n) rfl (by kernel_rfl) (by kernel_rfl) (by kernel_rfl) (fun _ _ _ h => h) (Or.inl ⟨by rfl, ?_⟩) hHeld ?_
        · intro wq hSw
          try dsimp only at hSw
          go_simp
        try simp only [Act.put, List.getElem_toArray, List.getElem_cons_succ, List.getElem_cons_zero, List.setIfInBounds_toArray, List.set_cons_zero, List.set_cons_succ]
        refine wpAnyH_ready (rs := [8]) (by kernel_rfl) (by simp) ?_
        refine AllReadyH.cons rfl (fun KK hK => ?_) AllReadyH.nil
        simp only [List.getElem_toArray, List.getElem_cons_succ, List.getElem_cons_zero]
        rw [if_pos (by rfl)]
        refine wps1 34 (.tmp 60) _ rfl in_WholeOf_g (.int .i64 n) rfl (wOf_spec n hn1 hn0 _) ?_
        rintro e w22 ⟨v9, rfl, r9, k22⟩
        refine ⟨_, rfl, ?_⟩
        replace r2 := r2.kept k22 (.inr (.inr (Nat.le_refl 0)))
        replace r1 := r1.kept k22 (.inr (.inr (Nat.le_refl 0)))
        replace cf0 := k22.cell0 cf0
        replace cf1 := k22.cell0 cf1
        replace cf2 := k22.cell0 cf2
        replace cf3 := k22.cell0 cf3
        replace cg0 := k22.cell0 cg0
        replace cg1 := k22.cell0 cg1
        replace cg2 := k22.cell0 cg2
        replace cg3 := k22.cell0 cg3
        replace ck0 := k22.cell0 ck0
        replace ck1 := k22.cell0 ck1
        replace cx0 := k22.cell0 cx0
        replace cx1 := k22.cell0 cx1
        replace K := hide ((unhide K).trans k22)
        have z23 := k22.size
        clear k22
        clear hHeld
        refine hK.out _ _ ?_ (fun hHeld => ?_)
        · exact ⟨cx0, cx1⟩
        clear hK KK
        try simp only [Act.put, List.getElem_toArray, List.getElem_cons_succ, List.getElem_cons_zero, List.setIfInBounds_toArray, List.set_cons_zero, List.set_cons_succ]
        obtain ⟨a9, c9, hv⟩ := Row.form' r9
        subst hv
        refine wpAnyH_ready (rs := [9]) (by kernel_rfl) (by simp) ?_
        refine AllReadyH.cons rfl (fun KK hK => ?_) AllReadyH.nil
        simp only [List.getElem_toArray, List.getElem_cons_succ, List.getElem_cons_zero]
        rw [if_pos (by rfl)]
        refine wps2 33 (.tmp 59) (.tmp 61) _ rfl in_sameWhole_g (.agg #[.bool (wsg n), .slice a1 (wlm n).length c1]) (.agg #[.bool (wsg n), .slice a9 (wlm n).length c9]) rfl rfl (sameWhole_one (wsg n) _ r1 r9) ?_
        rintro e w24 ⟨rfl, k24⟩
        refine ⟨_, rfl, ?_⟩
        replace r2 := r2.kept k24 (.inr (.inr (Nat.le_refl 0)))
        replace r1 := r1.kept k24 (.inr (.inr (Nat.le_refl 0)))
        replace r9 := r9.kept k24 (.inr (.inr (Nat.le_refl 0)))
        replace cf0 := k24.cell0 cf0
        replace cf1 := k24.cell0 cf1
        replace cf2 := k24.cell0 cf2
        replace cf3 := k24.cell0 cf3
        replace cg0 := k24.cell0 cg0
        replace cg1 := k24.cell0 cg1
        replace cg2 := k24.cell0 cg2
        replace cg3 := k24.cell0 cg3
        replace ck0 := k24.cell0 ck0
        replace ck1 := k24.cell0 ck1
        replace cx0 := k24.cell0 cx0
        replace cx1 := k24.cell0 cx1
        replace K := hide ((unhide K).trans k24)
        have z25 := k24.size
        clear k24
        clear hHeld
        refine hK.out _ _ ?_ (fun hHeld => ?_)
        · exact ⟨cx0, cx1⟩
        clear hK KK
        try simp only [Act.put, List.getElem_toArray, List.getElem_cons_succ, List.getElem_cons_zero, List.setIfInBounds_toArray, List.set_cons_zero, List.set_cons_succ]
        refine wpAnyH_take (i := 10) (oi := _) (v := .bool false) rfl (by kernel_rfl) (by kernel_rfl) (by kernel_rfl) (fun _ _ _ h => h) (Or.inl ⟨by rfl, ?_⟩) hHeld ?_
        · intro wq hSw
          try dsimp only at hSw
          go_simp
        try simp only [Act.put, List.getElem_toArray, List.getElem_cons_succ, List.getElem_cons_zero, List.setIfInBounds_toArray, List.set_cons_zero, List.set_cons_succ]
        refine wpAnyH_take (i := 11) (oi := _) (v := .bool false) rfl (by kernel_rfl) (by kernel_rfl) (by kernel_rfl) (fun _ _ _ h => h) (Or.inl ⟨by rfl, ?_⟩) hHeld ?_
        · intro wq hSw
          try dsimp only at hSw
          go_simp
        try simp only [Act.put, List.getElem_toArray, List.getElem_cons_succ, List.getElem_cons_zero, List.setIfInBounds_toArray, List.set_cons_zero, List.set_cons_succ]
        refine wpAnyH_take (i := 12) (oi := _) (v := .bool false) rfl (by kernel_rfl) (by kernel_rfl) (by kernel_rfl) (fun _ _ _ h => h) (Or.inl ⟨by rfl, ?_⟩) hHeld ?_
        · intro wq hSw
          try dsimp only at hSw
          go_simp
        try simp only [Act.put, List.getElem_toArray, List.getElem_cons_succ, List.getElem_cons_zero, List.setIfInBounds_toArray, List.set_cons_zero, List.set_cons_succ]
        refine wpAnyH_take (i := 13) (oi := _) (v := .bool false) rfl (by kernel_rfl) (by kernel_rfl) (by kernel_rfl) (fun _ _ _ h => h) (Or.inl ⟨by rfl, ?_⟩) hHeld ?_
        · intro wq hSw
          try dsimp only at hSw
          go_simp
        try simp only [Act.put, List.getElem_toArray, List.getElem_cons_succ, List.getElem_cons_zero, List.setIfInBounds_toArray, List.set_cons_zero, List.set_cons_succ]
        refine wpAnyH_take (i := 14) (oi := _) (v := .int .i64 n) rfl (by kernel_rfl) (by kernel_rfl) (by kernel_rfl) (fun _ _ _ h => h) (Or.inl ⟨by rfl, ?_⟩) hHeld ?_
        · intro wq hSw
          try dsimp only at hSw
          go_simp
        try simp only [Act.put, List.getElem_toArray, List.getElem_cons_succ, List.getElem_cons_zero, List.setIfInBounds_toArray, List.set_cons_zero, List.set_cons_succ]
        refine wpAnyH_take (i := 15) (oi := _) (v := .bool true) rfl (by kernel_rfl) (by kernel_rfl) (by kernel_rfl) (fun _ _ _ h => h) (Or.inl ⟨by rfl, ?_⟩) hHeld ?_
        · intro wq hSw
          try dsimp only at hSw
          go_simp
        try simp only [Act.put, List.getElem_toArray, List.getElem_cons_succ, List.getElem_cons_zero, List.setIfInBounds_toArray, List.set_cons_zero, List.set_cons_succ]
        refine wpAnyH_take (i := 16) (oi := _) (v := .bool true) rfl (by kernel_rfl) (by kernel_rfl) (by kernel_rfl) (fun _ _ _ h => h) (Or.inl ⟨by rfl, ?_⟩) hHeld ?_
        · intro wq hSw
          try dsimp only at hSw
          go_simp
        try simp only [Act.put, List.getElem_toArray, List.getElem_cons_succ, List.getElem_cons_zero, List.setIfInBounds_toArray, List.set_cons_zero, List.set_cons_succ]
        refine wpAnyH_take (i := 17) (oi := _) (v := .int .i64 n) rfl (by kernel_rfl) (by kernel_rfl) (by kernel_rfl) (fun _ _ _ h => h) (Or.inl ⟨by rfl, ?_⟩) hHeld ?_
        · intro wq hSw
          try dsimp only at hSw
          go_simp
        try simp only [Act.put, List.getElem_toArray, List.getElem_cons_succ, List.getElem_cons_zero, List.setIfInBounds_toArray, List.set_cons_zero, List.set_cons_succ]
        refine wpAnyH_take (i := 18) (oi := _) (v := .bool false) rfl (by kernel_rfl) (by kernel_rfl) (by kernel_rfl) (fun _ _ _ h => h) (Or.inl ⟨by rfl, ?_⟩) hHeld ?_
        · intro wq hSw
          try dsimp only at hSw
          go_simp
        try simp only [Act.put, List.getElem_toArray, List.getElem_cons_succ, List.getElem_cons_zero, List.setIfInBounds_toArray, List.set_cons_zero, List.set_cons_succ]
        refine wpAnyH_take (i := 19) (oi := _) (v := .bool false) rfl (by kernel_rfl) (by kernel_rfl) (by kernel_rfl) (fun _ _ _ h => h) (Or.inl ⟨by rfl, ?_⟩) hHeld ?_
        · intro wq hSw
          try dsimp only at hSw
          go_simp
        try simp only [Act.put, List.getElem_toArray, List.getElem_cons_succ, List.getElem_cons_zero, List.setIfInBounds_toArray, List.set_cons_zero, List.set_cons_succ]
        refine wpAnyH_take (i := 20) (oi := _) (v := .bool false) rfl (by kernel_rfl) (by kernel_rfl) (by kernel_rfl) (fun _ _ _ h => h) (Or.inl ⟨by rfl, ?_⟩) hHeld ?_
        · intro wq hSw
          try dsimp only at hSw
          go_simp
        try simp only [Act.put, List.getElem_toArray, List.getElem_cons_succ, List.getElem_cons_zero, List.setIfInBounds_toArray, List.set_cons_zero, List.set_cons_succ]
        refine wpAnyH_take (i := 21) (v := undef) rfl (by kernel_rfl) (by kernel_rfl) (by kernel_rfl) (fun _ _ _ h => h) (Or.inr ⟨by rfl, rfl⟩) hHeld ?_
        try simp only [Act.put, List.getElem_toArray, List.getElem_cons_succ, List.getElem_cons_zero, List.setIfInBounds_toArray, List.set_cons_zero, List.set_cons_succ]
        refine wpAnyH_take (i := 22) (v := undef) rfl (by kernel_rfl) (by kernel_rfl) (by kernel_rfl) (fun _ _ _ h => h) (Or.inr ⟨by rfl, rfl⟩) hHeld ?_
        try simp only [Act.put, List.getElem_toArray, List.getElem_cons_succ, List.getElem_cons_zero, List.setIfInBounds_toArray, List.set_cons_zero, List.set_cons_succ]
        refine wpAnyH_take (i := 23) (oi := _) (v := .bool false) rfl (by kernel_rfl) (by kernel_rfl) (by kernel_rfl) (fun _ _ _ h => h) (Or.inl ⟨by rfl, ?_⟩) hHeld ?_
        · intro wq hSw
          try dsimp only at hSw
          go_simp
        try simp only [Act.put, List.getElem_toArray, List.getElem_cons_succ, List.getElem_cons_zero, List.setIfInBounds_toArray, List.set_cons_zero, List.set_cons_succ]
        refine wpAnyH_take (i := 24) (oi := _) (v := .bool false) rfl (by kernel_rfl) (by kernel_rfl) (by kernel_rfl) (fun _ _ _ h => h) (Or.inl ⟨by rfl, ?_⟩) hHeld ?_
        · intro wq hSw
          try dsimp only at hSw
          go_simp
        try simp only [Act.put, List.getElem_toArray, List.getElem_cons_succ, List.getElem_cons_zero, List.setIfInBounds_toArray, List.set_cons_zero, List.set_cons_succ]
        refine wpAnyH_done (by kernel_rfl) ?_ _
        clear hHeld
        clear r9
        clear r1
        go_wp2_with fail
        refine (unhide mf _ ((unhide HT).kept (unhide K))).mono ?_
        rintro e w26 ⟨v3, rfl, r3, k26⟩
        replace r2 := r2.kept k26 (.inr (.inr (Nat.le_refl 0)))
        replace cf0 := k26.cell0 cf0
        replace cf1 := k26.cell0 cf1
        replace cf2 := k26.cell0 cf2
        replace cf3 := k26.cell0 cf3
        replace cg0 := k26.cell0 cg0
        replace cg1 := k26.cell0 cg1
        replace cg2 := k26.cell0 cg2
        replace cg3 := k26.cell0 cg3
        replace ck0 := k26.cell0 ck0
        replace ck1 := k26.cell0 ck1
        replace cx0 := k26.cell0 cx0
        replace cx1 := k26.cell0 cx1
        replace K := hide ((unhide K).trans k26)
        have z27 := k26.size
        clear k26
        clear mf
        obtain ⟨a3, c3, hv⟩ := Row.form' r3
        subst hv
        cases B2
        · clear HR
          cases D3
          · clear HN
            clear r2 r3
            have kn := (Kept.refl 0 0 w26).alloc (.cells #[.bool S3, .slice a3 L3.length c3, .int .i64 E3] 42)
            have cd0 : (w26.alloc (.cells #[.bool S3, .slice a3 L3.length c3, .int .i64 E3] 42)).cell? ⟨w26.heap.size, 0, none⟩ = some (.bool S3) := new_cell2 _ _ _ _ _ _ (by simp) rfl
            have cd1 : (w26.alloc (.cells #[.bool S3, .slice a3 L3.length c3, .int .i64 E3] 42)).cell? ⟨w26.heap.size, 1, none⟩ = some (.slice a3 L3.length c3) := new_cell2 _ _ _ _ _ _ (by simp) rfl
            have cd2 : (w26.alloc (.cells #[.bool S3, .slice a3 L3.length c3, .int .i64 E3] 42)).cell? ⟨w26.heap.size, 2, none⟩ = some (.int .i64 E3) := new_cell2 _ _ _ _ _ _ (by simp) rfl
            have sz28 : w26.heap.size + 1 ≤ (w26.alloc (.cells #[.bool S3, .slice a3 L3.length c3, .int .i64 E3] 42)).heap.size := by simp
            replace cf0 := kn.cell0 cf0
            replace cf1 := kn.cell0 cf1
            replace cf2 := kn.cell0 cf2
            replace cf3 := kn.cell0 cf3
            replace cg0 := kn.cell0 cg0
            replace cg1 := kn.cell0 cg1
            replace cg2 := kn.cell0 cg2
            replace cg3 := kn.cell0 cg3
            replace ck0 := kn.cell0 ck0
            replace ck1 := kn.cell0 ck1
            replace cx0 := kn.cell0 cx0
            replace cx1 := kn.cell0 cx1
            replace K := hide ((unhide K).trans kn)
            have z29 := kn.size
            clear kn
            go_wp2_with fail
            generalize (w26.alloc (.cells #[.bool S3, .slice a3 L3.length c3, .int .i64 E3] 42)) = wn30 at *
            go_ret
            exact ⟨rfl, (unhide K).toBelow⟩
          rcases unhide HN rfl rfl with ho | ho
          · clear HN
            clear r2 r3
            have kn := (Kept.refl 0 0 w26).alloc (.cells #[.bool S3, .slice a3 L3.length c3, .int .i64 E3] 42)
            have cd0 : (w26.alloc (.cells #[.bool S3, .slice a3 L3.length c3, .int .i64 E3] 42)).cell? ⟨w26.heap.size, 0, none⟩ = some (.bool S3) := new_cell2 _ _ _ _ _ _ (by simp) rfl
            have cd1 : (w26.alloc (.cells #[.bool S3, .slice a3 L3.length c3, .int .i64 E3] 42)).cell? ⟨w26.heap.size, 1, none⟩ = some (.slice a3 L3.length c3) := new_cell2 _ _ _ _ _ _ (by simp) rfl
            have cd2 : (w26.alloc (.cells #[.bool S3, .slice a3 L3.length c3, .int .i64 E3] 42)).cell? ⟨w26.heap.size, 2, none⟩ = some (.int .i64 E3) := new_cell2 _ _ _ _ _ _ (by simp) rfl
            have sz28 : w26.heap.size + 1 ≤ (w26.alloc (.cells #[.bool S3, .slice a3 L3.length c3, .int .i64 E3] 42)).heap.size := by simp
            replace cf0 := kn.cell0 cf0
            replace cf1 := kn.cell0 cf1
            replace cf2 := kn.cell0 cf2
            replace cf3 := kn.cell0 cf3
            replace cg0 := kn.cell0 cg0
            replace cg1 := kn.cell0 cg1
            replace cg2 := kn.cell0 cg2
            replace cg3 := kn.cell0 cg3
            replace ck0 := kn.cell0 ck0
            replace ck1 := kn.cell0 ck1
            replace cx0 := kn.cell0 cx0
            replace cx1 := kn.cell0 cx1
            replace K := hide ((unhide K).trans kn)
            have z29 := kn.size
            clear kn
            go_wp2_with fail
            generalize (w26.alloc (.cells #[.bool S3, .slice a3 L3.length c3, .int .i64 E3] 42)) = wn30 at *
            go_ret
            exact ⟨congrArg (fun b => Ending.returned (.bool b)) (by simp [ho]), (unhide K).toBelow⟩
          · have ho2 : ¬ how < 0 := by omega
            clear HN
            clear r2 r3
            have kn := (Kept.refl 0 0 w26).alloc (.cells #[.bool S3, .slice a3 L3.length c3, .int .i64 E3] 42)
            have cd0 : (w26.alloc (.cells #[.bool S3, .slice a3 L3.length c3, .int .i64 E3] 42)).cell? ⟨w26.heap.size, 0, none⟩ = some (.bool S3) := new_cell2 _ _ _ _ _ _ (by simp) rfl
            have cd1 : (w26.alloc (.cells #[.bool S3, .slice a3 L3.length c3, .int .i64 E3] 42)).cell? ⟨w26.heap.size, 1, none⟩ = some (.slice a3 L3.length c3) := new_cell2 _ _ _ _ _ _ (by simp) rfl
            have cd2 : (w26.alloc (.cells #[.bool S3, .slice a3 L3.length c3, .int .i64 E3] 42)).cell? ⟨w26.heap.size, 2, none⟩ = some (.int .i64 E3) := new_cell2 _ _ _ _ _ _ (by simp) rfl
            have sz28 : w26.heap.size + 1 ≤ (w26.alloc (.cells #[.bool S3, .slice a3 L3.length c3, .int .i64 E3] 42)).heap.size := by simp
            replace cf0 := kn.cell0 cf0
            replace cf1 := kn.cell0 cf1
            replace cf2 := kn.cell0 cf2
            replace cf3 := kn.cell0 cf3
            replace cg0 := kn.cell0 cg0
            replace cg1 := kn.cell0 cg1
            replace cg2 := kn.cell0 cg2
            replace cg3 := kn.cell0 cg3
            replace ck0 := kn.cell0 ck0
            replace ck1 := kn.cell0 ck1
            replace cx0 := kn.cell0 cx0
            replace cx1 := kn.cell0 cx1
            replace K := hide ((unhide K).trans kn)
            have z29 := kn.size
            clear kn
            go_wp2_with fail
            generalize (w26.alloc (.cells #[.bool S3, .slice a3 L3.length c3, .int .i64 E3] 42)) = wn30 at *
            go_ret
            exact ⟨congrArg (fun b => Ending.returned (.bool b)) (by simp [ho]), (unhide K).toBelow⟩
        obtain ⟨⟨q1, q2⟩, q3, q4, q5⟩ := unhide HR rfl
        clear HR HN
        have mr := fun (w : World) (T : TabB w) (r : Row .i64 true 0 w.heap.size w (.slice a3 L3.length c3) L3) => dround_impl S3 E3 q1 q2 0 how w r T
        have mo := fun (w : World) (r : Row .i64 true 0 w.heap.size w (.slice a2 L2.length c2) L2) => dof_spec S2 0 w r
        simp only [q3, q5] at mr
        simp only [q4] at mo
        obtain ⟨S5, hS5⟩ : ∃ y, ansDS true (wval S2 L2) 0 = y := ⟨_, rfl⟩
        obtain ⟨L5, hL5⟩ : ∃ y, ansDL true (wval S2 L2) 0 = y := ⟨_, rfl⟩
        obtain ⟨E5, hE5⟩ : ∃ y, ansDE true (wval S2 L2) 0 = y := ⟨_, rfl⟩
        obtain ⟨B5, hB5⟩ : ∃ y, ansDB true (wval S2 L2) 0 = y := ⟨_, rfl⟩
        obtain ⟨X5, hX5⟩ : ∃ y, (true && rndX (scN (val L3).toNat (E3 - (0 - 1))) (scL (val L3).toNat (E3 - (0 - 1)))) = y := ⟨_, rfl⟩
        simp only [hS5, hL5, hE5, hB5, hX5] at mr
        simp only [hS5, hL5, hE5, hB5] at mo
        replace mr := hide mr
        replace mo := hide mo
        clear hS5 hL5 hE5 hB5 hX5 q1 q2 q3 q4 q5
        have kn := (Kept.refl 0 0 w26).alloc (.cells #[.bool S3, .slice a3 L3.length c3, .int .i64 E3] 42)
        have cd0 : (w26.alloc (.cells #[.bool S3, .slice a3 L3.length c3, .int .i64 E3] 42)).cell? ⟨w26.heap.size, 0, none⟩ = some (.bool S3) := new_cell2 _ _ _ _ _ _ (by simp) rfl
        have cd1 : (w26.alloc (.cells #[.bool S3, .slice a3 L3.length c3, .int .i64 E3] 42)).cell? ⟨w26.heap.size, 1, none⟩ = some (.slice a3 L3.length c3) := new_cell2 _ _ _ _ _ _ (by simp) rfl
        have cd2 : (w26.alloc (.cells #[.bool S3, .slice a3 L3.length c3, .int .i64 E3] 42)).cell? ⟨w26.heap.size, 2, none⟩ = some (.int .i64 E3) := new_cell2 _ _ _ _ _ _ (by simp) rfl
        have sz28 : w26.heap.size + 1 ≤ (w26.alloc (.cells #[.bool S3, .slice a3 L3.length c3, .int .i64 E3] 42)).heap.size := by simp
        replace r2 := r2.kept kn (.inr (.inr (Nat.le_refl 0)))
        replace r3 := r3.kept kn (.inr (.inr (Nat.le_refl 0)))
        replace cf0 := kn.cell0 cf0
        replace cf1 := kn.cell0 cf1
        replace cf2 := kn.cell0 cf2
        replace cf3 := kn.cell0 cf3
        replace cg0 := kn.cell0 cg0
        replace cg1 := kn.cell0 cg1
        replace cg2 := kn.cell0 cg2
        replace cg3 := kn.cell0 cg3
        replace ck0 := kn.cell0 ck0
        replace ck1 := kn.cell0 ck1
        replace cx0 := kn.cell0 cx0
        replace cx1 := kn.cell0 cx1
        replace K := hide ((unhide K).trans kn)
        have z29 := kn.size
        clear kn
        go_wp2_with fail
        generalize (w26.alloc (.cells #[.bool S3, .slice a3 L3.length c3, .int .i64 E3] 42)) = wn30 at *
        refine (unhide mr _ ((unhide HT).kept (unhide K)) (r3.tight.wider (Nat.zero_le _) (Nat.le_refl _))).mono ?_
        rintro e w31 ⟨v5, rfl, r5, k31⟩
        replace r2 := r2.kept k31 (.inr (.inr (Nat.le_refl 0)))
        replace r3 := r3.kept k31 (.inr (.inr (Nat.le_refl 0)))
        replace cf0 := k31.cell0 cf0
        replace cf1 := k31.cell0 cf1
        replace cf2 := k31.cell0 cf2
        replace cf3 := k31.cell0 cf3
        replace cg0 := k31.cell0 cg0
        replace cg1 := k31.cell0 cg1
        replace cg2 := k31.cell0 cg2
        replace cg3 := k31.cell0 cg3
        replace ck0 := k31.cell0 ck0
        replace ck1 := k31.cell0 ck1
        replace cx0 := k31.cell0 cx0
        replace cx1 := k31.cell0 cx1
        replace cd0 := k31.cell0 cd0
        replace cd1 := k31.cell0 cd1
        replace cd2 := k31.cell0 cd2
        replace K := hide ((unhide K).trans k31)
        have z32 := k31.size
        clear k31
        clear mr
        obtain ⟨a5, c5, hv⟩ := Row.form' r5
        subst hv
        clear r3
        have kn := (Kept.refl 0 0 w31).alloc (.cells #[.bool S5, .slice a5 L5.length c5, .int .i64 E5] 42)
        have ce0 : (w31.alloc (.cells #[.bool S5, .slice a5 L5.length c5, .int .i64 E5] 42)).cell? ⟨w31.heap.size, 0, none⟩ = some (.bool S5) := new_cell2 _ _ _ _ _ _ (by simp) rfl
        have ce1 : (w31.alloc (.cells #[.bool S5, .slice a5 L5.length c5, .int .i64 E5] 42)).cell? ⟨w31.heap.size, 1, none⟩ = some (.slice a5 L5.length c5) := new_cell2 _ _ _ _ _ _ (by simp) rfl
        have ce2 : (w31.alloc (.cells #[.bool S5, .slice a5 L5.length c5, .int .i64 E5] 42)).cell? ⟨w31.heap.size, 2, none⟩ = some (.int .i64 E5) := new_cell2 _ _ _ _ _ _ (by simp) rfl
        have sz33 : w31.heap.size + 1 ≤ (w31.alloc (.cells #[.bool S5, .slice a5 L5.length c5, .int .i64 E5] 42)).heap.size := by simp
        replace r2 := r2.kept kn (.inr (.inr (Nat.le_refl 0)))
        replace r5 := r5.kept kn (.inr (.inr (Nat.le_refl 0)))
        replace cf0 := kn.cell0 cf0
        replace cf1 := kn.cell0 cf1
        replace cf2 := kn.cell0 cf2
        replace cf3 := kn.cell0 cf3
        replace cg0 := kn.cell0 cg0
        replace cg1 := kn.cell0 cg1
        replace cg2 := kn.cell0 cg2
        replace cg3 := kn.cell0 cg3
        replace ck0 := kn.cell0 ck0
        replace ck1 := kn.cell0 ck1
        replace cx0 := kn.cell0 cx0
        replace cx1 := kn.cell0 cx1
        replace cd0 := kn.cell0 cd0
        replace cd1 := kn.cell0 cd1
        replace cd2 := kn.cell0 cd2
        replace K := hide ((unhide K).trans kn)
        have z34 := kn.size
        clear kn
        go_wp2_with fail
        generalize (w31.alloc (.cells #[.bool S5, .slice a5 L5.length c5, .int .i64 E5] 42)) = wn35 at *
        refine (unhide mo _ (r2.tight.wider (Nat.zero_le _) (Nat.le_refl _))).mono ?_
        rintro e w36 ⟨v6, rfl, r6, k36⟩
        replace r2 := r2.kept k36 (.inr (.inr (Nat.le_refl 0)))
        replace r5 := r5.kept k36 (.inr (.inr (Nat.le_refl 0)))
        replace cf0 := k36.cell0 cf0
        replace cf1 := k36.cell0 cf1
        replace cf2 := k36.cell0 cf2
        replace cf3 := k36.cell0 cf3
        replace cg0 := k36.cell0 cg0
        replace cg1 := k36.cell0 cg1
        replace cg2 := k36.cell0 cg2
        replace cg3 := k36.cell0 cg3
        replace ck0 := k36.cell0 ck0
        replace ck1 := k36.cell0 ck1
        replace cx0 := k36.cell0 cx0
        replace cx1 := k36.cell0 cx1
        replace cd0 := k36.cell0 cd0
        replace cd1 := k36.cell0 cd1
        replace cd2 := k36.cell0 cd2
        replace ce0 := k36.cell0 ce0
        replace ce1 := k36.cell0 ce1
        replace ce2 := k36.cell0 ce2
        replace K := hide ((unhide K).trans k36)
        have z37 := k36.size
        clear k36
        clear mo
        obtain ⟨a6, c6, hv⟩ := Row.form' r6
        subst hv
        clear r2
        have kn := (Kept.refl 0 0 w36).alloc (.cells #[.bool S5, .slice a6 L5.length c6, .int .i64 E5] 42)
        have ch0 : (w36.alloc (.cells #[.bool S5, .slice a6 L5.length c6, .int .i64 E5] 42)).cell? ⟨w36.heap.size, 0, none⟩ = some (.bool S5) := new_cell2 _ _ _ _ _ _ (by simp) rfl
        have ch1 : (w36.alloc (.cells #[.bool S5, .slice a6 L5.length c6, .int .i64 E5] 42)).cell? ⟨w36.heap.size, 1, none⟩ = some (.slice a6 L5.length c6) := new_cell2 _ _ _ _ _ _ (by simp) rfl
        have ch2 : (w36.alloc (.cells #[.bool S5, .slice a6 L5.length c6, .int .i64 E5] 42)).cell? ⟨w36.heap.size, 2, none⟩ = some (.int .i64 E5) := new_cell2 _ _ _ _ _ _ (by simp) rfl
        have sz38 : w36.heap.size + 1 ≤ (w36.alloc (.cells #[.bool S5, .slice a6 L5.length c6, .int .i64 E5] 42)).heap.size := by simp
        replace r5 := r5.kept kn (.inr (.inr (Nat.le_refl 0)))
        replace r6 := r6.kept kn (.inr (.inr (Nat.le_refl 0)))
        replace cf0 := kn.cell0 cf0
        replace cf1 := kn.cell0 cf1
        replace cf2 := kn.cell0 cf2
        replace cf3 := kn.cell0 cf3
        replace cg0 := kn.cell0 cg0
        replace cg1 := kn.cell0 cg1
        replace cg2 := kn.cell0 cg2
        replace cg3 := kn.cell0 cg3
        replace ck0 := kn.cell0 ck0
        replace ck1 := kn.cell0 ck1
        replace cx0 := kn.cell0 cx0
        replace cx1 := kn.cell0 cx1
        replace cd0 := kn.cell0 cd0
        replace cd1 := kn.cell0 cd1
        replace cd2 := kn.cell0 cd2
        replace ce0 := kn.cell0 ce0
        replace ce1 := kn.cell0 ce1
        replace ce2 := kn.cell0 ce2
        replace K := hide ((unhide K).trans kn)
        have z39 := kn.size
        clear kn
        go_wp2_with fail
        generalize (w36.alloc (.cells #[.bool S5, .slice a6 L5.length c6, .int .i64 E5] 42)) = wn40 at *
        have mk := sameDy_any S5 S5 E5 E5 wn40 r5 r6
        rw [show sameDB S5 L5 E5 S5 L5 E5 = true by unfold sameDB sameL; rw [decide_eq_true rfl, decide_eq_true rfl]; cases S5 <;> rfl] at mk
        refine (mk).mono ?_
        rintro e w41 ⟨rfl, k41⟩
        replace r5 := r5.kept k41 (.inr (.inr (Nat.le_refl 0)))
        replace r6 := r6.kept k41 (.inr (.inr (Nat.le_refl 0)))
        replace cf0 := k41.cell0 cf0
        replace cf1 := k41.cell0 cf1
        replace cf2 := k41.cell0 cf2
        replace cf3 := k41.cell0 cf3
        replace cg0 := k41.cell0 cg0
        replace cg1 := k41.cell0 cg1
        replace cg2 := k41.cell0 cg2
        replace cg3 := k41.cell0 cg3
        replace ck0 := k41.cell0 ck0
        replace ck1 := k41.cell0 ck1
        replace cx0 := k41.cell0 cx0
        replace cx1 := k41.cell0 cx1
        replace cd0 := k41.cell0 cd0
        replace cd1 := k41.cell0 cd1
        replace cd2 := k41.cell0 cd2
        replace ce0 := k41.cell0 ce0
        replace ce1 := k41.cell0 ce1
        replace ce2 := k41.cell0 ce2
        replace ch0 := k41.cell0 ch0
        replace ch1 := k41.cell0 ch1
        replace ch2 := k41.cell0 ch2
        replace K := hide ((unhide K).trans k41)
        have z42 := k41.size
        clear k41
        clear mk r5 r6
        go_wp2_with fail
        go_ret
        exact ⟨rfl, (unhide K).toBelow⟩
      · have g1 : -9007199254740992 < n := by omega
        have g2 : n < 9007199254740992 := by omega
        have kd := (Kept.refl 0 0 wz).drew
        replace r2 := r2.kept kd (.inr (.inr (Nat.le_refl 0)))
        replace r1 := r1.kept kd (.inr (.inr (Nat.le_refl 0)))
        replace cf0 := kd.cell0 cf0
        replace cf1 := kd.cell0 cf1
        replace cf2 := kd.cell0 cf2
        replace cf3 := kd.cell0 cf3
        replace cg0 := kd.cell0 cg0
        replace cg1 := kd.cell0 cg1
        replace cg2 := kd.cell0 cg2
        replace cg3 := kd.cell0 cg3
        replace ck0 := kd.cell0 ck0
        replace ck1 := kd.cell0 ck1
        replace cx0 := kd.cell0 cx0
        replace cx1 := kd.cell0 cx1
        replace K := hide ((unhide K).trans kd)
        have z21 := kd.size
        clear kd
        refine wp_region_held_drew (S := (fun w' => w'.cell? ⟨w18.heap.size, 0, none⟩ = some (.bool (wsg n)) ∧ w'.cell? ⟨w18.heap.size, 1, none⟩ = some (.slice a1 (wlm n).length c1))) (by kernel_rfl) ?_ (fun hHeld => ?_)
        · exact ⟨cx0, cx1⟩
        refine wpAnyH_take (i := 0) (oi := _) (v := .bool true) rfl (by kernel_rfl) (by kernel_rfl) (by kernel_rfl) (fun _ _ _ h => h) (Or.inl ⟨by rfl, ?_⟩) hHeld ?_
        · intro wq hSw
          try dsimp only at hSw
          go_simp
        try simp only [Act.put, List.getElem_toArray, List.getElem_cons_succ, List.getElem_cons_zero, List.setIfInBounds_toArray, List.set_cons_zero, List.set_cons_succ]
        refine wpAnyH_take (i := 1) (oi := _) (v := .bool false) rfl (by kernel_rfl) (by kernel_rfl) (by kernel_rfl) (fun _ _ _ h => h) (Or.inl ⟨by rfl, ?_⟩) hHeld ?_
        · intro wq hSw
          try dsimp only at hSw
          go_simp
        try simp only [Act.put, List.getElem_toArray, List.getElem_cons_succ, List.getElem_cons_zero, List.setIfInBounds_toArray, List.set_cons_zero, List.set_cons_succ]
        refine wpAnyH_take (i := 2) (oi := _) (v := .bool false) rfl (by kernel_rfl) (by kernel_rfl) (by kernel_rfl) (fun _ _ _ h => h) (Or.inl ⟨by rfl, ?_⟩) hHeld ?_
        · intro wq hSw
          try dsimp only at hSw
          go_simp
        try simp only [Act.put, List.getElem_toArray, List.getElem_cons_succ, List.getElem_cons_zero, List.setIfInBounds_toArray, List.set_cons_zero, List.set_cons_succ]
        refine wpAnyH_take (i := 3) (oi := _) (v := .int .i64 0) rfl (by kernel_rfl) (by kernel_rfl) (by kernel_rfl) (fun _ _ _ h => h) (Or.inl ⟨by rfl, ?_⟩) hHeld ?_
        · intro wq hSw
          try dsimp only at hSw
          go_simp
        try simp only [Act.put, List.getElem_toArray, List.getElem_cons_succ, List.getElem_cons_zero, List.setIfInBounds_toArray, List.set_cons_zero, List.set_cons_succ]
        refine wpAnyH_take (i := 4) (oi := _) (v := .bool true) rfl (by kernel_rfl) (by kernel_rfl) (by kernel_rfl) (fun _ _ _ h => h) (Or.inl ⟨by rfl, ?_⟩) hHeld ?_
        · intro wq hSw
          try dsimp only at hSw
          go_simp
        try simp only [Act.put, List.getElem_toArray, List.getElem_cons_succ, List.getElem_cons_zero, List.setIfInBounds_toArray, List.set_cons_zero, List.set_cons_succ]
        refine wpAnyH_take (i := 5) (oi := _) (v := .bool true) rfl (by kernel_rfl) (by kernel_rfl) (by kernel_rfl) (fun _ _ _ h => h) (Or.inl ⟨by rfl, ?_⟩) hHeld ?_
        · intro wq hSw
          try dsimp only at hSw
          go_simp
        try simp only [Act.put, List.getElem_toArray, List.getElem_cons_succ, List.getElem_cons_zero, List.setIfInBounds_toArray, List.set_cons_zero, List.set_cons_succ]
        refine wpAnyH_take (i := 6) (oi := _) (v := .agg #[.bool (wsg n), .slice a1 (wlm n).length c1]) rfl (by kernel_rfl) (by kernel_rfl) (by kernel_rfl) (fun _ _ _ h => h) (Or.inl ⟨by rfl, ?_⟩) hHeld ?_
        · intro wq hSw
          try dsimp only at hSw
          go_simp
        try simp only [Act.put, List.getElem_toArray, List.getElem_cons_succ, List.getElem_cons_zero, List.setIfInBounds_toArray, List.set_cons_zero, List.set_cons_succ]
        refine wpAnyH_take (i := 7) (oi := _) (v := .int .i64 n) rfl (by kernel_rfl) (by kernel_rfl) (by kernel_rfl) (fun _ _ _ h => h) (Or.inl ⟨by rfl, ?_⟩) hHeld ?_
        · intro wq hSw
          try dsimp only at hSw
          go_simp
        try simp only [Act.put, List.getElem_toArray, List.getElem_cons_succ, List.getElem_cons_zero, List.setIfInBounds_toArray, List.set_cons_zero, List.set_cons_succ]
        refine wpAnyH_ready (rs := [8]) (by kernel_rfl) (by simp) ?_
        refine AllReadyH.cons rfl (fun KK hK => ?_) AllReadyH.nil
        simp only [List.getElem_toArray, List.getElem_cons_succ, List.getElem_cons_zero]
        rw [if_pos (by rfl)]
        refine wps1 34 (.tmp 60) _ rfl in_WholeOf_g (.int .i64 n) rfl (wOf_spec n hn1 hn0 _) ?_
        rintro e w22 ⟨v9, rfl, r9, k22⟩
        refine ⟨_, rfl, ?_⟩
        replace r2 := r2.kept k22 (.inr (.inr (Nat.le_refl 0)))
        replace r1 := r1.kept k22 (.inr (.inr (Nat.le_refl 0)))
        replace cf0 := k22.cell0 cf0
        replace cf1 := k22.cell0 cf1
        replace cf2 := k22.cell0 cf2
        replace cf3 := k22.cell0 cf3
        replace cg0 := k22.cell0 cg0
        replace cg1 := k22.cell0 cg1
        replace cg2 := k22.cell0 cg2
        replace cg3 := k22.cell0 cg3
        replace ck0 := k22.cell0 ck0
        replace ck1 := k22.cell0 ck1
        replace cx0 := k22.cell0 cx0
        replace cx1 := k22.cell0 cx1
        replace K := hide ((unhide K).trans k22)
        have z23 := k22.size
        clear k22
        clear hHeld
        refine hK.out _ _ ?_ (fun hHeld => ?_)
        · exact ⟨cx0, cx1⟩
        clear hK KK
        try simp only [Act.put, List.getElem_toArray, List.getElem_cons_succ, List.getElem_cons_zero, List.setIfInBounds_toArray, List.set_cons_zero, List.set_cons_succ]
        obtain ⟨a9, c9, hv⟩ := Row.form' r9
        subst hv
        refine wpAnyH_ready (rs := [9]) (by kernel_rfl) (by simp) ?_
        refine AllReadyH.cons rfl (fun KK hK => ?_) AllReadyH.nil
        simp only [List.getElem_toArray, List.getElem_cons_succ, List.getElem_cons_zero]
        rw [if_pos (by rfl)]
        refine wps2 33 (.tmp 59) (.tmp 61) _ rfl in_sameWhole_g (.agg #[.bool (wsg n), .slice a1 (wlm n).length c1]) (.agg #[.bool (wsg n), .slice a9 (wlm n).length c9]) rfl rfl (sameWhole_one (wsg n) _ r1 r9) ?_
        rintro e w24 ⟨rfl, k24⟩
        refine ⟨_, rfl, ?_⟩
        replace r2 := r2.kept k24 (.inr (.inr (Nat.le_refl 0)))
        replace r1 := r1.kept k24 (.inr (.inr (Nat.le_refl 0)))
        replace r9 := r9.kept k24 (.inr (.inr (Nat.le_refl 0)))
        replace cf0 := k24.cell0 cf0
        replace cf1 := k24.cell0 cf1
        replace cf2 := k24.cell0 cf2
        replace cf3 := k24.cell0 cf3
        replace cg0 := k24.cell0 cg0
        replace cg1 := k24.cell0 cg1
        replace cg2 := k24.cell0 cg2
        replace cg3 := k24.cell0 cg3
        replace ck0 := k24.cell0 ck0
        replace ck1 := k24.cell0 ck1
        replace cx0 := k24.cell0 cx0
        replace cx1 := k24.cell0 cx1
        replace K := hide ((unhide K).trans k24)
        have z25 := k24.size
        clear k24
        clear hHeld
        refine hK.out _ _ ?_ (fun hHeld => ?_)
        · exact ⟨cx0, cx1⟩
        clear hK KK
        try simp only [Act.put, List.getElem_toArray, List.getElem_cons_succ, List.getElem_cons_zero, List.setIfInBounds_toArray, List.set_cons_zero, List.set_cons_succ]
        refine wpAnyH_take (i := 10) (oi := _) (v := .bool false) rfl (by kernel_rfl) (by kernel_rfl) (by kernel_rfl) (fun _ _ _ h => h) (Or.inl ⟨by rfl, ?_⟩) hHeld ?_
        · intro wq hSw
          try dsimp only at hSw
          go_simp
        try simp only [Act.put, List.getElem_toArray, List.getElem_cons_succ, List.getElem_cons_zero, List.setIfInBounds_toArray, List.set_cons_zero, List.set_cons_succ]
        refine wpAnyH_take (i := 11) (oi := _) (v := .bool false) rfl (by kernel_rfl) (by kernel_rfl) (by kernel_rfl) (fun _ _ _ h => h) (Or.inl ⟨by rfl, ?_⟩) hHeld ?_
        · intro wq hSw
          try dsimp only at hSw
          go_simp
        try simp only [Act.put, List.getElem_toArray, List.getElem_cons_succ, List.getElem_cons_zero, List.setIfInBounds_toArray, List.set_cons_zero, List.set_cons_succ]
        refine wpAnyH_take (i := 12) (oi := _) (v := .bool false) rfl (by kernel_rfl) (by kernel_rfl) (by kernel_rfl) (fun _ _ _ h => h) (Or.inl ⟨by rfl, ?_⟩) hHeld ?_
        · intro wq hSw
          try dsimp only at hSw
          go_simp
        try simp only [Act.put, List.getElem_toArray, List.getElem_cons_succ, List.getElem_cons_zero, List.setIfInBounds_toArray, List.set_cons_zero, List.set_cons_succ]
        refine wpAnyH_take (i := 13) (oi := _) (v := .bool false) rfl (by kernel_rfl) (by kernel_rfl) (by kernel_rfl) (fun _ _ _ h => h) (Or.inl ⟨by rfl, ?_⟩) hHeld ?_
        · intro wq hSw
          try dsimp only at hSw
          go_simp
        try simp only [Act.put, List.getElem_toArray, List.getElem_cons_succ, List.getElem_cons_zero, List.setIfInBounds_toArray, List.set_cons_zero, List.set_cons_succ]
        refine wpAnyH_take (i := 14) (oi := _) (v := .int .i64 n) rfl (by kernel_rfl) (by kernel_rfl) (by kernel_rfl) (fun _ _ _ h => h) (Or.inl ⟨by rfl, ?_⟩) hHeld ?_
        · intro wq hSw
          try dsimp only at hSw
          go_simp
        try simp only [Act.put, List.getElem_toArray, List.getElem_cons_succ, List.getElem_cons_zero, List.setIfInBounds_toArray, List.set_cons_zero, List.set_cons_succ]
        refine wpAnyH_take (i := 15) (oi := _) (v := .bool true) rfl (by kernel_rfl) (by kernel_rfl) (by kernel_rfl) (fun _ _ _ h => h) (Or.inl ⟨by rfl, ?_⟩) hHeld ?_
        · intro wq hSw
          try dsimp only at hSw
          go_simp
        try simp only [Act.put, List.getElem_toArray, List.getElem_cons_succ, List.getElem_cons_zero, List.setIfInBounds_toArray, List.set_cons_zero, List.set_cons_succ]
        refine wpAnyH_take (i := 16) (oi := _) (v := .bool true) rfl (by kernel_rfl) (by kernel_rfl) (by kernel_rfl) (fun _ _ _ h => h) (Or.inl ⟨by rfl, ?_⟩) hHeld ?_
        · intro wq hSw
          try dsimp only at hSw
          go_simp
        try simp only [Act.put, List.getElem_toArray, List.getElem_cons_succ, List.getElem_cons_zero, List.setIfInBounds_toArray, List.set_cons_zero, List.set_cons_succ]
        refine wpAnyH_take (i := 17) (oi := _) (v := .int .i64 n) rfl (by kernel_rfl) (by kernel_rfl) (by kernel_rfl) (fun _ _ _ h => h) (Or.inl ⟨by rfl, ?_⟩) hHeld ?_
        · intro wq hSw
          try dsimp only at hSw
          go_simp
        try simp only [Act.put, List.getElem_toArray, List.getElem_cons_succ, List.getElem_cons_zero, List.setIfInBounds_toArray, List.set_cons_zero, List.set_cons_succ]
        refine wpAnyH_take (i := 18) (oi := _) (v := .bool true) rfl (by kernel_rfl) (by kernel_rfl) (by kernel_rfl) (fun _ _ _ h => h) (Or.inl ⟨by rfl, ?_⟩) hHeld ?_
        · intro wq hSw
          try dsimp only at hSw
          go_simp
        try simp only [Act.put, List.getElem_toArray, List.getElem_cons_succ, List.getElem_cons_zero, List.setIfInBounds_toArray, List.set_cons_zero, List.set_cons_succ]
        refine wpAnyH_take (i := 19) (oi := _) (v := .bool true) rfl (by kernel_rfl) (by kernel_rfl) (by kernel_rfl) (fun _ _ _ h => h) (Or.inl ⟨by rfl, ?_⟩) hHeld ?_
        · intro wq hSw
          try dsimp only at hSw
          go_simp
        try simp only [Act.put, List.getElem_toArray, List.getElem_cons_succ, List.getElem_cons_zero, List.setIfInBounds_toArray, List.set_cons_zero, List.set_cons_succ]
        refine wpAnyH_take (i := 20) (oi := _) (v := .bool true) rfl (by kernel_rfl) (by kernel_rfl) (by kernel_rfl) (fun _ _ _ h => h) (Or.inl ⟨by rfl, ?_⟩) hHeld ?_
        · intro wq hSw
          try dsimp only at hSw
          go_simp
        try simp only [Act.put, List.getElem_toArray, List.getElem_cons_succ, List.getElem_cons_zero, List.setIfInBounds_toArray, List.set_cons_zero, List.set_cons_succ]
        refine wpAnyH_take (i := 21) (oi := _) (v := .int .i64 0) rfl (by kernel_rfl) (by kernel_rfl) (by kernel_rfl) (fun _ _ _ h => h) (Or.inl ⟨by rfl, ?_⟩) hHeld ?_
        · intro wq hSw
          try dsimp only at hSw
          go_simp
        try simp only [Act.put, List.getElem_toArray, List.getElem_cons_succ, List.getElem_cons_zero, List.setIfInBounds_toArray, List.set_cons_zero, List.set_cons_succ]
        refine wpAnyH_take (i := 22) (oi := _) (v := .bool false) rfl (by kernel_rfl) (by kernel_rfl) (by kernel_rfl) (fun _ _ _ h => h) (Or.inl ⟨by rfl, ?_⟩) hHeld ?_
        · intro wq hSw
          try dsimp only at hSw
          go_simp
        try simp only [Act.put, List.getElem_toArray, List.getElem_cons_succ, List.getElem_cons_zero, List.setIfInBounds_toArray, List.set_cons_zero, List.set_cons_succ]
        refine wpAnyH_take (i := 23) (oi := _) (v := .bool false) rfl (by kernel_rfl) (by kernel_rfl) (by kernel_rfl) (fun _ _ _ h => h) (Or.inl ⟨by rfl, ?_⟩) hHeld ?_
        · intro wq hSw
          try dsimp only at hSw
          go_simp
        try simp only [Act.put, List.getElem_toArray, List.getElem_cons_succ, List.getElem_cons_zero, List.setIfInBounds_toArray, List.set_cons_zero, List.set_cons_succ]
        refine wpAnyH_take (i := 24) (oi := _) (v := .bool false) rfl (by kernel_rfl) (by kernel_rfl) (by kernel_rfl) (fun _ _ _ h => h) (Or.inl ⟨by rfl, ?_⟩) hHeld ?_
        · intro wq hSw
          try dsimp only at hSw
          go_simp
        try simp only [Act.put, List.getElem_toArray, List.getElem_cons_succ, List.getElem_cons_zero, List.setIfInBounds_toArray, List.set_cons_zero, List.set_cons_succ]
        refine wpAnyH_done (by kernel_rfl) ?_ _
        clear hHeld
        clear r9
        clear r1
        go_wp2_with fail
        refine (unhide mf _ ((unhide HT).kept (unhide K))).mono ?_
        rintro e w26 ⟨v3, rfl, r3, k26⟩
        replace r2 := r2.kept k26 (.inr (.inr (Nat.le_refl 0)))
        replace cf0 := k26.cell0 cf0
        replace cf1 := k26.cell0 cf1
        replace cf2 := k26.cell0 cf2
        replace cf3 := k26.cell0 cf3
        replace cg0 := k26.cell0 cg0
        replace cg1 := k26.cell0 cg1
        replace cg2 := k26.cell0 cg2
        replace cg3 := k26.cell0 cg3
        replace ck0 := k26.cell0 ck0
        replace ck1 := k26.cell0 ck1
        replace cx0 := k26.cell0 cx0
        replace cx1 := k26.cell0 cx1
        replace K := hide ((unhide K).trans k26)
        have z27 := k26.size
        clear k26
        clear mf
        obtain ⟨a3, c3, hv⟩ := Row.form' r3
        subst hv
        cases B2
        · clear HR
          cases D3
          · clear HN
            clear r2 r3
            have kn := (Kept.refl 0 0 w26).alloc (.cells #[.bool S3, .slice a3 L3.length c3, .int .i64 E3] 42)
            have cd0 : (w26.alloc (.cells #[.bool S3, .slice a3 L3.length c3, .int .i64 E3] 42)).cell? ⟨w26.heap.size, 0, none⟩ = some (.bool S3) := new_cell2 _ _ _ _ _ _ (by simp) rfl
            have cd1 : (w26.alloc (.cells #[.bool S3, .slice a3 L3.length c3, .int .i64 E3] 42)).cell? ⟨w26.heap.size, 1, none⟩ = some (.slice a3 L3.length c3) := new_cell2 _ _ _ _ _ _ (by simp) rfl
            have cd2 : (w26.alloc (.cells #[.bool S3, .slice a3 L3.length c3, .int .i64 E3] 42)).cell? ⟨w26.heap.size, 2, none⟩ = some (.int .i64 E3) := new_cell2 _ _ _ _ _ _ (by simp) rfl
            have sz28 : w26.heap.size + 1 ≤ (w26.alloc (.cells #[.bool S3, .slice a3 L3.length c3, .int .i64 E3] 42)).heap.size := by simp
            replace cf0 := kn.cell0 cf0
            replace cf1 := kn.cell0 cf1
            replace cf2 := kn.cell0 cf2
            replace cf3 := kn.cell0 cf3
            replace cg0 := kn.cell0 cg0
            replace cg1 := kn.cell0 cg1
            replace cg2 := kn.cell0 cg2
            replace cg3 := kn.cell0 cg3
            replace ck0 := kn.cell0 ck0
            replace ck1 := kn.cell0 ck1
            replace cx0 := kn.cell0 cx0
            replace cx1 := kn.cell0 cx1
            replace K := hide ((unhide K).trans kn)
            have z29 := kn.size
            clear kn
            go_wp2_with fail
            generalize (w26.alloc (.cells #[.bool S3, .slice a3 L3.length c3, .int .i64 E3] 42)) = wn30 at *
            go_ret
            exact ⟨rfl, (unhide K).toBelow⟩
          rcases unhide HN rfl rfl with ho | ho
          · clear HN
            clear r2 r3
            have kn := (Kept.refl 0 0 w26).alloc (.cells #[.bool S3, .slice a3 L3.length c3, .int .i64 E3] 42)
            have cd0 : (w26.alloc (.cells #[.bool S3, .slice a3 L3.length c3, .int .i64 E3] 42)).cell? ⟨w26.heap.size, 0, none⟩ = some (.bool S3) := new_cell2 _ _ _ _ _ _ (by simp) rfl
            have cd1 : (w26.alloc (.cells #[.bool S3, .slice a3 L3.length c3, .int .i64 E3] 42)).cell? ⟨w26.heap.size, 1, none⟩ = some (.slice a3 L3.length c3) := new_cell2 _ _ _ _ _ _ (by simp) rfl
            have cd2 : (w26.alloc (.cells #[.bool S3, .slice a3 L3.length c3, .int .i64 E3] 42)).cell? ⟨w26.heap.size, 2, none⟩ = some (.int .i64 E3) := new_cell2 _ _ _ _ _ _ (by simp) rfl
            have sz28 : w26.heap.size + 1 ≤ (w26.alloc (.cells #[.bool S3, .slice a3 L3.length c3, .int .i64 E3] 42)).heap.size := by simp
            replace cf0 := kn.cell0 cf0
            replace cf1 := kn.cell0 cf1
            replace cf2 := kn.cell0 cf2
            replace cf3 := kn.cell0 cf3
            replace cg0 := kn.cell0 cg0
            replace cg1 := kn.cell0 cg1
            replace cg2 := kn.cell0 cg2
            replace cg3 := kn.cell0 cg3
            replace ck0 := kn.cell0 ck0
            replace ck1 := kn.cell0 ck1
            replace cx0 := kn.cell0 cx0
            replace cx1 := kn.cell0 cx1
            replace K := hide ((unhide K).trans kn)
            have z29 := kn.size
            clear kn
            go_wp2_with fail
            generalize (w26.alloc (.cells #[.bool S3, .slice a3 L3.length c3, .int .i64 E3] 42)) = wn30 at *
            go_ret
            exact ⟨congrArg (fun b => Ending.returned (.bool b)) (by simp [ho]), (unhide K).toBelow⟩
          · have ho2 : ¬ how < 0 := by omega
            clear HN
            clear r2 r3
            have kn := (Kept.refl 0 0 w26).alloc (.cells #[.bool S3, .slice a3 L3.length c3, .int .i64 E3] 42)
            have cd0 : (w26.alloc (.cells #[.bool S3, .slice a3 L3.length c3, .int .i64 E3] 42)).cell? ⟨w26.heap.size, 0, none⟩ = some (.bool S3) := new_cell2 _ _ _ _ _ _ (by simp) rfl
            have cd1 : (w26.alloc (.cells #[.bool S3, .slice a3 L3.length c3, .int .i64 E3] 42)).cell? ⟨w26.heap.size, 1, none⟩ = some (.slice a3 L3.length c3) := new_cell2 _ _ _ _ _ _ (by simp) rfl
            have cd2 : (w26.alloc (.cells #[.bool S3, .slice a3 L3.length c3, .int .i64 E3] 42)).cell? ⟨w26.heap.size, 2, none⟩ = some (.int .i64 E3) := new_cell2 _ _ _ _ _ _ (by simp) rfl
            have sz28 : w26.heap.size + 1 ≤ (w26.alloc (.cells #[.bool S3, .slice a3 L3.length c3, .int .i64 E3] 42)).heap.size := by simp
            replace cf0 := kn.cell0 cf0
            replace cf1 := kn.cell0 cf1
            replace cf2 := kn.cell0 cf2
            replace cf3 := kn.cell0 cf3
            replace cg0 := kn.cell0 cg0
            replace cg1 := kn.cell0 cg1
            replace cg2 := kn.cell0 cg2
            replace cg3 := kn.cell0 cg3
            replace ck0 := kn.cell0 ck0
            replace ck1 := kn.cell0 ck1
            replace cx0 := kn.cell0 cx0
            replace cx1 := kn.cell0 cx1
            replace K := hide ((unhide K).trans kn)
            have z29 := kn.size
            clear kn
            go_wp2_with fail
            generalize (w26.alloc (.cells #[.bool S3, .slice a3 L3.length c3, .int .i64 E3] 42)) = wn30 at *
            go_ret
            exact ⟨congrArg (fun b => Ending.returned (.bool b)) (by simp [ho]), (unhide K).toBelow⟩
        obtain ⟨⟨q1, q2⟩, q3, q4, q5⟩ := unhide HR rfl
        clear HR HN
        have mr := fun (w : World) (T : TabB w) (r : Row .i64 true 0 w.heap.size w (.slice a3 L3.length c3) L3) => dround_impl S3 E3 q1 q2 0 how w r T
        have mo := fun (w : World) (r : Row .i64 true 0 w.heap.size w (.slice a2 L2.length c2) L2) => dof_spec S2 0 w r
        simp only [q3, q5] at mr
        simp only [q4] at mo
        obtain ⟨S5, hS5⟩ : ∃ y, ansDS true (wval S2 L2) 0 = y := ⟨_, rfl⟩
        obtain ⟨L5, hL5⟩ : ∃ y, ansDL true (wval S2 L2) 0 = y := ⟨_, rfl⟩
        obtain ⟨E5, hE5⟩ : ∃ y, ansDE true (wval S2 L2) 0 = y := ⟨_, rfl⟩
        obtain ⟨B5, hB5⟩ : ∃ y, ansDB true (wval S2 L2) 0 = y := ⟨_, rfl⟩
        obtain ⟨X5, hX5⟩ : ∃ y, (true && rndX (scN (val L3).toNat (E3 - (0 - 1))) (scL (val L3).toNat (E3 - (0 - 1)))) = y := ⟨_, rfl⟩
        simp only [hS5, hL5, hE5, hB5, hX5] at mr
        simp only [hS5, hL5, hE5, hB5] at mo
        replace mr := hide mr
        replace mo := hide mo
        clear hS5 hL5 hE5 hB5 hX5 q1 q2 q3 q4 q5
        have kn := (Kept.refl 0 0 w26).alloc (.cells #[.bool S3, .slice a3 L3.length c3, .int .i64 E3] 42)
        have cd0 : (w26.alloc (.cells #[.bool S3, .slice a3 L3.length c3, .int .i64 E3] 42)).cell? ⟨w26.heap.size, 0, none⟩ = some (.bool S3) := new_cell2 _ _ _ _ _ _ (by simp) rfl
        have cd1 : (w26.alloc (.cells #[.bool S3, .slice a3 L3.length c3, .int .i64 E3] 42)).cell? ⟨w26.heap.size, 1, none⟩ = some (.slice a3 L3.length c3) := new_cell2 _ _ _ _ _ _ (by simp) rfl
        have cd2 : (w26.alloc (.cells #[.bool S3, .slice a3 L3.length c3, .int .i64 E3] 42)).cell? ⟨w26.heap.size, 2, none⟩ = some (.int .i64 E3) := new_cell2 _ _ _ _ _ _ (by simp) rfl
        have sz28 : w26.heap.size + 1 ≤ (w26.alloc (.cells #[.bool S3, .slice a3 L3.length c3, .int .i64 E3] 42)).heap.size := by simp
        replace r2 := r2.kept kn (.inr (.inr (Nat.le_refl 0)))
        replace r3 := r3.kept kn (.inr (.inr (Nat.le_refl 0)))
        replace cf0 := kn.cell0 cf0
        replace cf1 := kn.cell0 cf1
        replace cf2 := kn.cell0 cf2
        replace cf3 := kn.cell0 cf3
        replace cg0 := kn.cell0 cg0
        replace cg1 := kn.cell0 cg1
        replace cg2 := kn.cell0 cg2
        replace cg3 := kn.cell0 cg3
        replace ck0 := kn.cell0 ck0
        replace ck1 := kn.cell0 ck1
        replace cx0 := kn.cell0 cx0
        replace cx1 := kn.cell0 cx1
        replace K := hide ((unhide K).trans kn)
        have z29 := kn.size
        clear kn
        go_wp2_with fail
        generalize (w26.alloc (.cells #[.bool S3, .slice a3 L3.length c3, .int .i64 E3] 42)) = wn30 at *
        refine (unhide mr _ ((unhide HT).kept (unhide K)) (r3.tight.wider (Nat.zero_le _) (Nat.le_refl _))).mono ?_
        rintro e w31 ⟨v5, rfl, r5, k31⟩
        replace r2 := r2.kept k31 (.inr (.inr (Nat.le_refl 0)))
        replace r3 := r3.kept k31 (.inr (.inr (Nat.le_refl 0)))
        replace cf0 := k31.cell0 cf0
        replace cf1 := k31.cell0 cf1
        replace cf2 := k31.cell0 cf2
        replace cf3 := k31.cell0 cf3
        replace cg0 := k31.cell0 cg0
        replace cg1 := k31.cell0 cg1
        replace cg2 := k31.cell0 cg2
        replace cg3 := k31.cell0 cg3
        replace ck0 := k31.cell0 ck0
        replace ck1 := k31.cell0 ck1
        replace cx0 := k31.cell0 cx0
        replace cx1 := k31.cell0 cx1
        replace cd0 := k31.cell0 cd0
        replace cd1 := k31.cell0 cd1
        replace cd2 := k31.cell0 cd2
        replace K := hide ((unhide K).trans k31)
        have z32 := k31.size
        clear k31
        clear mr
        obtain ⟨a5, c5, hv⟩ := Row.form' r5
        subst hv
        clear r3
        have kn := (Kept.refl 0 0 w31).alloc (.cells #[.bool S5, .slice a5 L5.length c5, .int .i64 E5] 42)
        have ce0 : (w31.alloc (.cells #[.bool S5, .slice a5 L5.length c5, .int .i64 E5] 42)).cell? ⟨w31.heap.size, 0, none⟩ = some (.bool S5) := new_cell2 _ _ _ _ _ _ (by simp) rfl
        have ce1 : (w31.alloc (.cells #[.bool S5, .slice a5 L5.length c5, .int .i64 E5] 42)).cell? ⟨w31.heap.size, 1, none⟩ = some (.slice a5 L5.length c5) := new_cell2 _ _ _ _ _ _ (by simp) rfl
        have ce2 : (w31.alloc (.cells #[.bool S5, .slice a5 L5.length c5, .int .i64 E5] 42)).cell? ⟨w31.heap.size, 2, none⟩ = some (.int .i64 E5) := new_cell2 _ _ _ _ _ _ (by simp) rfl
        have sz33 : w31.heap.size + 1 ≤ (w31.alloc (.cells #[.bool S5, .slice a5 L5.length c5, .int .i64 E5] 42)).heap.size := by simp
        replace r2 := r2.kept kn (.inr (.inr (Nat.le_refl 0)))
        replace r5 := r5.kept kn (.inr (.inr (Nat.le_refl 0)))
        replace cf0 := kn.cell0 cf0
        replace cf1 := kn.cell0 cf1
        replace cf2 := kn.cell0 cf2
        replace cf3 := kn.cell0 cf3
        replace cg0 := kn.cell0 cg0
        replace cg1 := kn.cell0 cg1
        replace cg2 := kn.cell0 cg2
        replace cg3 := kn.cell0 cg3
        replace ck0 := kn.cell0 ck0
        replace ck1 := kn.cell0 ck1
        replace cx0 := kn.cell0 cx0
        replace cx1 := kn.cell0 cx1
        replace cd0 := kn.cell0 cd0
        replace cd1 := kn.cell0 cd1
        replace cd2 := kn.cell0 cd2
        replace K := hide ((unhide K).trans kn)
        have z34 := kn.size
        clear kn
        go_wp2_with fail
        generalize (w31.alloc (.cells #[.bool S5, .slice a5 L5.length c5, .int .i64 E5] 42)) = wn35 at *
        refine (unhide mo _ (r2.tight.wider (Nat.zero_le _) (Nat.le_refl _))).mono ?_
        rintro e w36 ⟨v6, rfl, r6, k36⟩
        replace r2 := r2.kept k36 (.inr (.inr (Nat.le_refl 0)))
        replace r5 := r5.kept k36 (.inr (.inr (Nat.le_refl 0)))
        replace cf0 := k36.cell0 cf0
        replace cf1 := k36.cell0 cf1
        replace cf2 := k36.cell0 cf2
        replace cf3 := k36.cell0 cf3
        replace cg0 := k36.cell0 cg0
        replace cg1 := k36.cell0 cg1
        replace cg2 := k36.cell0 cg2
        replace cg3 := k36.cell0 cg3
        replace ck0 := k36.cell0 ck0
        replace ck1 := k36.cell0 ck1
        replace cx0 := k36.cell0 cx0
        replace cx1 := k36.cell0 cx1
        replace cd0 := k36.cell0 cd0
        replace cd1 := k36.cell0 cd1
        replace cd2 := k36.cell0 cd2
        replace ce0 := k36.cell0 ce0
        replace ce1 := k36.cell0 ce1
        replace ce2 := k36.cell0 ce2
        replace K := hide ((unhide K).trans k36)
        have z37 := k36.size
        clear k36
        clear mo
        obtain ⟨a6, c6, hv⟩ := Row.form' r6
        subst hv
        clear r2
        have kn := (Kept.refl 0 0 w36).alloc (.cells #[.bool S5, .slice a6 L5.length c6, .int .i64 E5] 42)
        have ch0 : (w36.alloc (.cells #[.bool S5, .slice a6 L5.length c6, .int .i64 E5] 42)).cell? ⟨w36.heap.size, 0, none⟩ = some (.bool S5) := new_cell2 _ _ _ _ _ _ (by simp) rfl
        have ch1 : (w36.alloc (.cells #[.bool S5, .slice a6 L5.length c6, .int .i64 E5] 42)).cell? ⟨w36.heap.size, 1, none⟩ = some (.slice a6 L5.length c6) := new_cell2 _ _ _ _ _ _ (by simp) rfl
        have ch2 : (w36.alloc (.cells #[.bool S5, .slice a6 L5.length c6, .int .i64 E5] 42)).cell? ⟨w36.heap.size, 2, none⟩ = some (.int .i64 E5) := new_cell2 _ _ _ _ _ _ (by simp) rfl
        have sz38 : w36.heap.size + 1 ≤ (w36.alloc (.cells #[.bool S5, .slice a6 L5.length c6, .int .i64 E5] 42)).heap.size := by simp
        replace r5 := r5.kept kn (.inr (.inr (Nat.le_refl 0)))
        replace r6 := r6.kept kn (.inr (.inr (Nat.le_refl 0)))
        replace cf0 := kn.cell0 cf0
        replace cf1 := kn.cell0 cf1
        replace cf2 := kn.cell0 cf2
        replace cf3 := kn.cell0 cf3
        replace cg0 := kn.cell0 cg0
        replace cg1 := kn.cell0 cg1
        replace cg2 := kn.cell0 cg2
        replace cg3 := kn.cell0 cg3
        replace ck0 := kn.cell0 ck0
        replace ck1 := kn.cell0 ck1
        replace cx0 := kn.cell0 cx0
        replace cx1 := kn.cell0 cx1
        replace cd0 := kn.cell0 cd0
        replace cd1 := kn.cell0 cd1
        replace cd2 := kn.cell0 cd2
        replace ce0 := kn.cell0 ce0
        replace ce1 := kn.cell0 ce1
        replace ce2 := kn.cell0 ce2
        replace K := hide ((unhide K).trans kn)
        have z39 := kn.size
        clear kn
        go_wp2_with fail
        generalize (w36.alloc (.cells #[.bool S5, .slice a6 L5.length c6, .int .i64 E5] 42)) = wn40 at *
        have mk := sameDy_any S5 S5 E5 E5 wn40 r5 r6
        rw [show sameDB S5 L5 E5 S5 L5 E5 = true by unfold sameDB sameL; rw [decide_eq_true rfl, decide_eq_true rfl]; cases S5 <;> rfl] at mk
        refine (mk).mono ?_
        rintro e w41 ⟨rfl, k41⟩
        replace r5 := r5.kept k41 (.inr (.inr (Nat.le_refl 0)))
        replace r6 := r6.kept k41 (.inr (.inr (Nat.le_refl 0)))
        replace cf0 := k41.cell0 cf0
        replace cf1 := k41.cell0 cf1
        replace cf2 := k41.cell0 cf2
        replace cf3 := k41.cell0 cf3
        replace cg0 := k41.cell0 cg0
        replace cg1 := k41.cell0 cg1
        replace cg2 := k41.cell0 cg2
        replace cg3 := k41.cell0 cg3
        replace ck0 := k41.cell0 ck0
        replace ck1 := k41.cell0 ck1
        replace cx0 := k41.cell0 cx0
        replace cx1 := k41.cell0 cx1
        replace cd0 := k41.cell0 cd0
        replace cd1 := k41.cell0 cd1
        replace cd2 := k41.cell0 cd2
        replace ce0 := k41.cell0 ce0
        replace ce1 := k41.cell0 ce1
        replace ce2 := k41.cell0 ce2
        replace ch0 := k41.cell0 ch0
        replace ch1 := k41.cell0 ch1
        replace ch2 := k41.cell0 ch2
        replace K := hide ((unhide K).trans k41)
        have z42 := k41.size
        clear k41
        clear mk r5 r6
        go_wp2_with fail
        go_ret
        exact ⟨rfl, (unhide K).toBelow⟩
    · have hr : n ≤ -9007199254740992 ∨ 9007199254740992 ≤ n := by
        by_cases h1 : -9007199254740992 < n
        · by_cases h2 : n < 9007199254740992
          · exact absurd (unhide LL3 h1 h2) hG
          · exact .inr (by omega)
        · exact .inl (by omega)
      clear LL2 LL3
      have hG2 : (G == 0) = false := by simpa using hG
      rcases hr with hr | hr
      · have g1 : ¬ -9007199254740992 < n := by omega
        have kd := (Kept.refl 0 0 wz).drew
        replace r2 := r2.kept kd (.inr (.inr (Nat.le_refl 0)))
        replace r1 := r1.kept kd (.inr (.inr (Nat.le_refl 0)))
        replace cf0 := kd.cell0 cf0
        replace cf1 := kd.cell0 cf1
        replace cf2 := kd.cell0 cf2
        replace cf3 := kd.cell0 cf3
        replace cg0 := kd.cell0 cg0
        replace cg1 := kd.cell0 cg1
        replace cg2 := kd.cell0 cg2
        replace cg3 := kd.cell0 cg3
        replace ck0 := kd.cell0 ck0
        replace ck1 := kd.cell0 ck1
        replace cx0 := kd.cell0 cx0
        replace cx1 := kd.cell0 cx1
        replace K := hide ((unhide K).trans kd)
        have z21 := kd.size
        clear kd
        refine wp_region_held_drew (S := (fun w' => w'.cell? ⟨w18.heap.size, 0, none⟩ = some (.bool S1) ∧ w'.cell? ⟨w18.heap.size, 1, none⟩ = some (.slice a1 L1.length c1))) (by kernel_rfl) ?_ (fun hHeld => ?_)
        · exact ⟨cx0, cx1⟩
        refine wpAnyH_take (i := 0) (oi := _) (v := .bool true) rfl (by kernel_rfl) (by kernel_rfl) (by kernel_rfl) (fun _ _ _ h => h) (Or.inl ⟨by rfl, ?_⟩) hHeld ?_
        · intro wq hSw
          try dsimp only at hSw
          go_simp
        try simp only [Act.put, List.getElem_toArray, List.getElem_cons_succ, List.getElem_cons_zero, List.setIfInBounds_toArray, List.set_cons_zero, List.set_cons_succ]
        refine wpAnyH_take (i := 1) (oi := _) (v := .bool false) rfl (by kernel_rfl) (by kernel_rfl) (by kernel_rfl) (fun _ _ _ h => h) (Or.inl ⟨by rfl, ?_⟩) hHeld ?_
        · intro wq hSw
          try dsimp only at hSw
          go_simp
        try simp only [Act.put, List.getElem_toArray, List.getElem_cons_succ, List.getElem_cons_zero, List.setIfInBounds_toArray, List.set_cons_zero, List.set_cons_succ]
        refine wpAnyH_take (i := 2) (oi := _) (v := .bool false) rfl (by kernel_rfl) (by kernel_rfl) (by kernel_rfl) (fun _ _ _ h => h) (Or.inl ⟨by rfl, ?_⟩) hHeld ?_
        · intro wq hSw
          try dsimp only at hSw
          go_simp
        try simp only [Act.put, List.getElem_toArray, List.getElem_cons_succ, List.getElem_cons_zero, List.setIfInBounds_toArray, List.set_cons_zero, List.set_cons_succ]
        refine wpAnyH_take (i := 3) (oi := _) (v := .int .i64 G) rfl (by kernel_rfl) (by kernel_rfl) (by kernel_rfl) (fun _ _ _ h => h) (Or.inl ⟨by rfl, ?_⟩) hHeld ?_
        · intro wq hSw
          try dsimp only at hSw
          go_simp
        try simp only [Act.put, List.getElem_toArray, List.getElem_cons_succ, List.getElem_cons_zero, List.setIfInBounds_toArray, List.set_cons_zero, List.set_cons_succ]
        refine wpAnyH_take (i := 4) (oi := _) (v := .bool false) rfl (by kernel_rfl) (by kernel_rfl) (by kernel_rfl) (fun _ _ _ h => h) (Or.inl ⟨by rfl, ?_⟩) hHeld ?_
        · intro wq hSw
          try dsimp only at hSw
          go_simp
        try simp only [Act.put, List.getElem_toArray, List.getElem_cons_succ, List.getElem_cons_zero, List.setIfInBounds_toArray, List.set_cons_zero, List.set_cons_succ]
        refine wpAnyH_take (i := 5) (oi := _) (v := .bool false) rfl (by kernel_rfl) (by kernel_rfl) (by kernel_rfl) (fun _ _ _ h => h) (Or.inl ⟨by rfl, ?_⟩) hHeld ?_
        · intro wq hSw
          try dsimp only at hSw
          go_simp
        try simp only [Act.put, List.getElem_toArray, List.getElem_cons_succ, List.getElem_cons_zero, List.setIfInBounds_toArray, List.set_cons_zero, List.set_cons_succ]
        refine wpAnyH_take (i := 6) (v := undef) rfl (by kernel_rfl) (by kernel_rfl) (by kernel_rfl) (fun _ _ _ h => h) (Or.inr ⟨by rfl, rfl⟩) hHeld ?_
        try simp only [Act.put, List.getElem_toArray, List.getElem_cons_succ, List.getElem_cons_zero, List.setIfInBounds_toArray, List.set_cons_zero, List.set_cons_succ]
        refine wpAnyH_take (i := 7) (v := undef) rfl (by kernel_rfl) (by kernel_rfl) (by kernel_rfl) (fun _ _ _ h => h) (Or.inr ⟨by rfl, rfl⟩) hHeld ?_
        try simp only [Act.put, List.getElem_toArray, List.getElem_cons_succ, List.getElem_cons_zero, List.setIfInBounds_toArray, List.set_cons_zero, List.set_cons_succ]
        refine wpAnyH_take (i := 8) (v := undef) rfl (by kernel_rfl) (by kernel_rfl) (by kernel_rfl) (fun _ _ _ h => h) (Or.inr ⟨by rfl, rfl⟩) hHeld ?_
        try simp only [Act.put, List.getElem_toArray, List.getElem_cons_succ, List.getElem_cons_zero, List.setIfInBounds_toArray, List.set_cons_zero, List.set_cons_succ]
        refine wpAnyH_take (i := 9) (v := undef) rfl (by kernel_rfl) (by kernel_rfl) (by kernel_rfl) (fun _ _ _ h => h) (Or.inr ⟨by rfl, rfl⟩) hHeld ?_
        try simp only [Act.put, List.getElem_toArray, List.getElem_cons_succ, List.getElem_cons_zero, List.setIfInBounds_toArray, List.set_cons_zero, List.set_cons_succ]
        refine wpAnyH_take (i := 10) (v := undef) rfl (by kernel_rfl) (by kernel_rfl) (by kernel_rfl) (fun _ _ _ h => h) (Or.inr ⟨by rfl, rfl⟩) hHeld ?_
        try simp only [Act.put, List.getElem_toArray, List.getElem_cons_succ, List.getElem_cons_zero, List.setIfInBounds_toArray, List.set_cons_zero, List.set_cons_succ]
        refine wpAnyH_take (i := 11) (oi := _) (v := .bool false) rfl (by kernel_rfl) (by kernel_rfl) (by kernel_rfl) (fun _ _ _ h => h) (Or.inl ⟨by rfl, ?_⟩) hHeld ?_
        · intro wq hSw
          try dsimp only at hSw
          go_simp
        try simp only [Act.put, List.getElem_toArray, List.getElem_cons_succ, List.getElem_cons_zero, List.setIfInBounds_toArray, List.set_cons_zero, List.set_cons_succ]
        refine wpAnyH_take (i := 12) (oi := _) (v := .bool false) rfl (by kernel_rfl) (by kernel_rfl) (by kernel_rfl) (fun _ _ _ h => h) (Or.inl ⟨by rfl, ?_⟩) hHeld ?_
        · intro wq hSw
          try dsimp only at hSw
          go_simp
        try simp only [Act.put, List.getElem_toArray, List.getElem_cons_succ, List.getElem_cons_zero, List.setIfInBounds_toArray, List.set_cons_zero, List.set_cons_succ]
        refine wpAnyH_take (i := 13) (oi := _) (v := .bool false) rfl (by kernel_rfl) (by kernel_rfl) (by kernel_rfl) (fun _ _ _ h => h) (Or.inl ⟨by rfl, ?_⟩) hHeld ?_
        · intro wq hSw
          try dsimp only at hSw
          go_simp
        try simp only [Act.put, List.getElem_toArray, List.getElem_cons_succ, List.getElem_cons_zero, List.setIfInBounds_toArray, List.set_cons_zero, List.set_cons_succ]
        refine wpAnyH_take (i := 14) (oi := _) (v := .int .i64 n) rfl (by kernel_rfl) (by kernel_rfl) (by kernel_rfl) (fun _ _ _ h => h) (Or.inl ⟨by rfl, ?_⟩) hHeld ?_
        · intro wq hSw
          try dsimp only at hSw
          go_simp
        try simp only [Act.put, List.getElem_toArray, List.getElem_cons_succ, List.getElem_cons_zero, List.setIfInBounds_toArray, List.set_cons_zero, List.set_cons_succ]
        refine wpAnyH_take (i := 15) (oi := _) (v := .bool false) rfl (by kernel_rfl) (by kernel_rfl) (by kernel_rfl) (fun _ _ _ h => h) (Or.inl ⟨by rfl, ?_⟩) hHeld ?_
        · intro wq hSw
          try dsimp only at hSw
          go_simp
        try simp only [Act.put, List.getElem_toArray, List.getElem_cons_succ, List.getElem_cons_zero, List.setIfInBounds_toArray, List.set_cons_zero, List.set_cons_succ]
        refine wpAnyH_take (i := 16) (oi := _) (v := .bool false) rfl (by kernel_rfl) (by kernel_rfl) (by kernel_rfl) (fun _ _ _ h => h) (Or.inl ⟨by rfl, ?_⟩) hHeld ?_
        · intro wq hSw
          try dsimp only at hSw
          go_simp
        try simp only [Act.put, List.getElem_toArray, List.getElem_cons_succ, List.getElem_cons_zero, List.setIfInBounds_toArray, List.set_cons_zero, List.set_cons_succ]
        refine wpAnyH_take (i := 17) (v := undef) rfl (by kernel_rfl) (by kernel_rfl) (by kernel_rfl) (fun _ _ _ h => h) (Or.inr ⟨by rfl, rfl⟩) hHeld ?_
        try simp only [Act.put, List.getElem_toArray, List.getElem_cons_succ, List.getElem_cons_zero, List.setIfInBounds_toArray, List.set_cons_zero, List.set_cons_succ]
        refine wpAnyH_take (i := 18) (v := undef) rfl (by kernel_rfl) (by kernel_rfl) (by kernel_rfl) (fun _ _ _ h => h) (Or.inr ⟨by rfl, rfl⟩) hHeld ?_
        try simp only [Act.put, List.getElem_toArray, List.getElem_cons_succ, List.getElem_cons_zero, List.setIfInBounds_toArray, List.set_cons_zero, List.set_cons_succ]
        refine wpAnyH_take (i := 19) (oi := _) (v := .bool false) rfl (by kernel_rfl) (by kernel_rfl) (by kernel_rfl) (fun _ _ _ h => h) (Or.inl ⟨by rfl, ?_⟩) hHeld ?_
        · intro wq hSw
          try dsimp only at hSw
          go_simp
        try simp only [Act.put, List.getElem_toArray, List.getElem_cons_succ, List.getElem_cons_zero, List.setIfInBounds_toArray, List.set_cons_zero, List.set_cons_succ]
        refine wpAnyH_take (i := 20) (oi := _) (v := .bool false) rfl (by kernel_rfl) (by kernel_rfl) (by kernel_rfl) (fun _ _ _ h => h) (Or.inl ⟨by rfl, ?_⟩) hHeld ?_
        · intro wq hSw
          try dsimp only at hSw
          go_simp
        try simp only [Act.put, List.getElem_toArray, List.getElem_cons_succ, List.getElem_cons_zero, List.setIfInBounds_toArray, List.set_cons_zero, List.set_cons_succ]
        refine wpAnyH_take (i := 21) (v := undef) rfl (by kernel_rfl) (by kernel_rfl) (by kernel_rfl) (fun _ _ _ h => h) (Or.inr ⟨by rfl, rfl⟩) hHeld ?_
        try simp only [Act.put, List.getElem_toArray, List.getElem_cons_succ, List.getElem_cons_zero, List.setIfInBounds_toArray, List.set_cons_zero, List.set_cons_succ]
        refine wpAnyH_take (i := 22) (v := undef) rfl (by kernel_rfl) (by kernel_rfl) (by kernel_rfl) (fun _ _ _ h => h) (Or.inr ⟨by rfl, rfl⟩) hHeld ?_
        try simp only [Act.put, List.getElem_toArray, List.getElem_cons_succ, List.getElem_cons_zero, List.setIfInBounds_toArray, List.set_cons_zero, List.set_cons_succ]
        refine wpAnyH_take (i := 23) (oi := _) (v := .bool false) rfl (by kernel_rfl) (by kernel_rfl) (by kernel_rfl) (fun _ _ _ h => h) (Or.inl ⟨by rfl, ?_⟩) hHeld ?_
        · intro wq hSw
          try dsimp only at hSw
          go_simp
        try simp only [Act.put, List.getElem_toArray, List.getElem_cons_succ, List.getElem_cons_zero, List.setIfInBounds_toArray, List.set_cons_zero, List.set_cons_succ]
        refine wpAnyH_take (i := 24) (oi := _) (v := .bool false) rfl (by kernel_rfl) (by kernel_rfl) (by kernel_rfl) (fun _ _ _ h => h) (Or.inl ⟨by rfl, ?_⟩) hHeld ?_
        · intro wq hSw
          try dsimp only at hSw
          go_simp
        try simp only [Act.put, List.getElem_toArray, List.getElem_cons_succ, List.getElem_cons_zero, List.setIfInBounds_toArray, List.set_cons_zero, List.set_cons_succ]
        refine wpAnyH_done (by kernel_rfl) ?_ _
        clear hHeld
        clear r1
        go_wp2_with fail
        refine (unhide mf _ ((unhide HT).kept (unhide K))).mono ?_
        rintro e w22 ⟨v3, rfl, r3, k22⟩
        replace r2 := r2.kept k22 (.inr (.inr (Nat.le_refl 0)))
        replace cf0 := k22.cell0 cf0
        replace cf1 := k22.cell0 cf1
        replace cf2 := k22.cell0 cf2
        replace cf3 := k22.cell0 cf3
        replace cg0 := k22.cell0 cg0
        replace cg1 := k22.cell0 cg1
        replace cg2 := k22.cell0 cg2
        replace cg3 := k22.cell0 cg3
        replace ck0 := k22.cell0 ck0
        replace ck1 := k22.cell0 ck1
        replace cx0 := k22.cell0 cx0
        replace cx1 := k22.cell0 cx1
        replace K := hide ((unhide K).trans k22)
        have z23 := k22.size
        clear k22
        clear mf
        obtain ⟨a3, c3, hv⟩ := Row.form' r3
        subst hv
        cases B2
        · clear HR
          cases D3
          · clear HN
            clear r2 r3
            have kn := (Kept.refl 0 0 w22).alloc (.cells #[.bool S3, .slice a3 L3.length c3, .int .i64 E3] 42)
            have cd0 : (w22.alloc (.cells #[.bool S3, .slice a3 L3.length c3, .int .i64 E3] 42)).cell? ⟨w22.heap.size, 0, none⟩ = some (.bool S3) := new_cell2 _ _ _ _ _ _ (by simp) rfl
            have cd1 : (w22.alloc (.cells #[.bool S3, .slice a3 L3.length c3, .int .i64 E3] 42)).cell? ⟨w22.heap.size, 1, none⟩ = some (.slice a3 L3.length c3) := new_cell2 _ _ _ _ _ _ (by simp) rfl
            have cd2 : (w22.alloc (.cells #[.bool S3, .slice a3 L3.length c3, .int .i64 E3] 42)).cell? ⟨w22.heap.size, 2, none⟩ = some (.int .i64 E3) := new_cell2 _ _ _ _ _ _ (by simp) rfl
            have sz24 : w22.heap.size + 1 ≤ (w22.alloc (.cells #[.bool S3, .slice a3 L3.length c3, .int .i64 E3] 42)).heap.size := by simp
            replace cf0 := kn.cell0 cf0
            replace cf1 := kn.cell0 cf1
            replace cf2 := kn.cell0 cf2
            replace cf3 := kn.cell0 cf3
            replace cg0 := kn.cell0 cg0
            replace cg1 := kn.cell0 cg1
            replace cg2 := kn.cell0 cg2
            replace cg3 := kn.cell0 cg3
            replace ck0 := kn.cell0 ck0
            replace ck1 := kn.cell0 ck1
            replace cx0 := kn.cell0 cx0
            replace cx1 := kn.cell0 cx1
            replace K := hide ((unhide K).trans kn)
            have z25 := kn.size
            clear kn
            go_wp2_with fail
            generalize (w22.alloc (.cells #[.bool S3, .slice a3 L3.length c3, .int .i64 E3] 42)) = wn26 at *
            go_ret
            exact ⟨rfl, (unhide K).toBelow⟩
          rcases unhide HN rfl rfl with ho | ho
          · clear HN
            clear r2 r3
            have kn := (Kept.refl 0 0 w22).alloc (.cells #[.bool S3, .slice a3 L3.length c3, .int .i64 E3] 42)
            have cd0 : (w22.alloc (.cells #[.bool S3, .slice a3 L3.length c3, .int .i64 E3] 42)).cell? ⟨w22.heap.size, 0, none⟩ = some (.bool S3) := new_cell2 _ _ _ _ _ _ (by simp) rfl
            have cd1 : (w22.alloc (.cells #[.bool S3, .slice a3 L3.length c3, .int .i64 E3] 42)).cell? ⟨w22.heap.size, 1, none⟩ = some (.slice a3 L3.length c3) := new_cell2 _ _ _ _ _ _ (by simp) rfl
            have cd2 : (w22.alloc (.cells #[.bool S3, .slice a3 L3.length c3, .int .i64 E3] 42)).cell? ⟨w22.heap.size, 2, none⟩ = some (.int .i64 E3) := new_cell2 _ _ _ _ _ _ (by simp) rfl
            have sz24 : w22.heap.size + 1 ≤ (w22.alloc (.cells #[.bool S3, .slice a3 L3.length c3, .int .i64 E3] 42)).heap.size := by simp
            replace cf0 := kn.cell0 cf0
            replace cf1 := kn.cell0 cf1
            replace cf2 := kn.cell0 cf2
            replace cf3 := kn.cell0 cf3
            replace cg0 := kn.cell0 cg0
            replace cg1 := kn.cell0 cg1
            replace cg2 := kn.cell0 cg2
            replace cg3 := kn.cell0 cg3
            replace ck0 := kn.cell0 ck0
            replace ck1 := kn.cell0 ck1
            replace cx0 := kn.cell0 cx0
            replace cx1 := kn.cell0 cx1
            replace K := hide ((unhide K).trans kn)
            have z25 := kn.size
            clear kn
            go_wp2_with fail
            generalize (w22.alloc (.cells #[.bool S3, .slice a3 L3.length c3, .int .i64 E3] 42)) = wn26 at *
            go_ret
            exact ⟨congrArg (fun b => Ending.returned (.bool b)) (by simp [ho]), (unhide K).toBelow⟩
          · have ho2 : ¬ how < 0 := by omega
            clear HN
            clear r2 r3
            have kn := (Kept.refl 0 0 w22).alloc (.cells #[.bool S3, .slice a3 L3.length c3, .int .i64 E3] 42)
            have cd0 : (w22.alloc (.cells #[.bool S3, .slice a3 L3.length c3, .int .i64 E3] 42)).cell? ⟨w22.heap.size, 0, none⟩ = some (.bool S3) := new_cell2 _ _ _ _ _ _ (by simp) rfl
            have cd1 : (w22.alloc (.cells #[.bool S3, .slice a3 L3.length c3, .int .i64 E3] 42)).cell? ⟨w22.heap.size, 1, none⟩ = some (.slice a3 L3.length c3) := new_cell2 _ _ _ _ _ _ (by simp) rfl
            have cd2 : (w22.alloc (.cells #[.bool S3, .slice a3 L3.length c3, .int .i64 E3] 42)).cell? ⟨w22.heap.size, 2, none⟩ = some (.int .i64 E3) := new_cell2 _ _ _ _ _ _ (by simp) rfl
            have sz24 : w22.heap.size + 1 ≤ (w22.alloc (.cells #[.bool S3, .slice a3 L3.length c3, .int .i64 E3] 42)).heap.size := by simp
            replace cf0 := kn.cell0 cf0
            replace cf1 := kn.cell0 cf1
            replace cf2 := kn.cell0 cf2
            replace cf3 := kn.cell0 cf3
            replace cg0 := kn.cell0 cg0
            replace cg1 := kn.cell0 cg1
            replace cg2 := kn.cell0 cg2
            replace cg3 := kn.cell0 cg3
            replace ck0 := kn.cell0 ck0
            replace ck1 := kn.cell0 ck1
            replace cx0 := kn.cell0 cx0
            replace cx1 := kn.cell0 cx1
            replace K := hide ((unhide K).trans kn)
            have z25 := kn.size
            clear kn
            go_wp2_with fail
            generalize (w22.alloc (.cells #[.bool S3, .slice a3 L3.length c3, .int .i64 E3] 42)) = wn26 at *
            go_ret
            exact ⟨congrArg (fun b => Ending.returned (.bool b)) (by simp [ho]), (unhide K).toBelow⟩
        obtain ⟨⟨q1, q2⟩, q3, q4, q5⟩ := unhide HR rfl
        clear HR HN
        have mr := fun (w : World) (T : TabB w) (r : Row .i64 true 0 w.heap.size w (.slice a3 L3.length c3) L3) => dround_impl S3 E3 q1 q2 0 how w r T
        have mo := fun (w : World) (r : Row .i64 true 0 w.heap.size w (.slice a2 L2.length c2) L2) => dof_spec S2 0 w r
        simp only [q3, q5] at mr
        simp only [q4] at mo
        obtain ⟨S5, hS5⟩ : ∃ y, ansDS true (wval S2 L2) 0 = y := ⟨_, rfl⟩
        obtain ⟨L5, hL5⟩ : ∃ y, ansDL true (wval S2 L2) 0 = y := ⟨_, rfl⟩
        obtain ⟨E5, hE5⟩ : ∃ y, ansDE true (wval S2 L2) 0 = y := ⟨_, rfl⟩
        obtain ⟨B5, hB5⟩ : ∃ y, ansDB true (wval S2 L2) 0 = y := ⟨_, rfl⟩
        obtain ⟨X5, hX5⟩ : ∃ y, (true && rndX (scN (val L3).toNat (E3 - (0 - 1))) (scL (val L3).toNat (E3 - (0 - 1)))) = y := ⟨_, rfl⟩
        simp only [hS5, hL5, hE5, hB5, hX5] at mr
        simp only [hS5, hL5, hE5, hB5] at mo
        replace mr := hide mr
        replace mo := hide mo
        clear hS5 hL5 hE5 hB5 hX5 q1 q2 q3 q4 q5
        have kn := (Kept.refl 0 0 w22).alloc (.cells #[.bool S3, .slice a3 L3.length c3, .int .i64 E3] 42)
        have cd0 : (w22.alloc (.cells #[.bool S3, .slice a3 L3.length c3, .int .i64 E3] 42)).cell? ⟨w22.heap.size, 0, none⟩ = some (.bool S3) := new_cell2 _ _ _ _ _ _ (by simp) rfl
        have cd1 : (w22.alloc (.cells #[.bool S3, .slice a3 L3.length c3, .int .i64 E3] 42)).cell? ⟨w22.heap.size, 1, none⟩ = some (.slice a3 L3.length c3) := new_cell2 _ _ _ _ _ _ (by simp) rfl
        have cd2 : (w22.alloc (.cells #[.bool S3, .slice a3 L3.length c3, .int .i64 E3] 42)).cell? ⟨w22.heap.size, 2, none⟩ = some (.int .i64 E3) := new_cell2 _ _ _ _ _ _ (by simp) rfl
        have sz24 : w22.heap.size + 1 ≤ (w22.alloc (.cells #[.bool S3, .slice a3 L3.length c3, .int .i64 E3] 42)).heap.size := by simp
        replace r2 := r2.kept kn (.inr (.inr (Nat.le_refl 0)))
        replace r3 := r3.kept kn (.inr (.inr (Nat.le_refl 0)))
        replace cf0 := kn.cell0 cf0
        replace cf1 := kn.cell0 cf1
        replace cf2 := kn.cell0 cf2
        replace cf3 := kn.cell0 cf3
        replace cg0 := kn.cell0 cg0
        replace cg1 := kn.cell0 cg1
        replace cg2 := kn.cell0 cg2
        replace cg3 := kn.cell0 cg3
        replace ck0 := kn.cell0 ck0
        replace ck1 := kn.cell0 ck1
        replace cx0 := kn.cell0 cx0
        replace cx1 := kn.cell0 cx1
        replace K := hide ((unhide K).trans kn)
        have z25 := kn.size
        clear kn
        go_wp2_with fail
        generalize (w22.alloc (.cells #[.bool S3, .slice a3 L3.length c3, .int .i64 E3] 42)) = wn26 at *
        refine (unhide mr _ ((unhide HT).kept (unhide K)) (r3.tight.wider (Nat.zero_le _) (Nat.le_refl _))).mono ?_
        rintro e w27 ⟨v5, rfl, r5, k27⟩
        replace r2 := r2.kept k27 (.inr (.inr (Nat.le_refl 0)))
        replace r3 := r3.kept k27 (.inr (.inr (Nat.le_refl 0)))
        replace cf0 := k27.cell0 cf0
        replace cf1 := k27.cell0 cf1
        replace cf2 := k27.cell0 cf2
        replace cf3 := k27.cell0 cf3
        replace cg0 := k27.cell0 cg0
        replace cg1 := k27.cell0 cg1
        replace cg2 := k27.cell0 cg2
        replace cg3 := k27.cell0 cg3
        replace ck0 := k27.cell0 ck0
        replace ck1 := k27.cell0 ck1
        replace cx0 := k27.cell0 cx0
        replace cx1 := k27.cell0 cx1
        replace cd0 := k27.cell0 cd0
        replace cd1 := k27.cell0 cd1
        replace cd2 := k27.cell0 cd2
        replace K := hide ((unhide K).trans k27)
        have z28 := k27.size
        clear k27
        clear mr
        obtain ⟨a5, c5, hv⟩ := Row.form' r5
        subst hv
        clear r3
        have kn := (Kept.refl 0 0 w27).alloc (.cells #[.bool S5, .slice a5 L5.length c5, .int .i64 E5] 42)
        have ce0 : (w27.alloc (.cells #[.bool S5, .slice a5 L5.length c5, .int .i64 E5] 42)).cell? ⟨w27.heap.size, 0, none⟩ = some (.bool S5) := new_cell2 _ _ _ _ _ _ (by simp) rfl
        have ce1 : (w27.alloc (.cells #[.bool S5, .slice a5 L5.length c5, .int .i64 E5] 42)).cell? ⟨w27.heap.size, 1, none⟩ = some (.slice a5 L5.length c5) := new_cell2 _ _ _ _ _ _ (by simp) rfl
        have ce2 : (w27.alloc (.cells #[.bool S5, .slice a5 L5.length c5, .int .i64 E5] 42)).cell? ⟨w27.heap.size, 2, none⟩ = some (.int .i64 E5) := new_cell2 _ _ _ _ _ _ (by simp) rfl
        have sz29 : w27.heap.size + 1 ≤ (w27.alloc (.cells #[.bool S5, .slice a5 L5.length c5, .int .i64 E5] 42)).heap.size := by simp
        replace r2 := r2.kept kn (.inr (.inr (Nat.le_refl 0)))
        replace r5 := r5.kept kn (.inr (.inr (Nat.le_refl 0)))
        replace cf0 := kn.cell0 cf0
        replace cf1 := kn.cell0 cf1
        replace cf2 := kn.cell0 cf2
        replace cf3 := kn.cell0 cf3
        replace cg0 := kn.cell0 cg0
        replace cg1 := kn.cell0 cg1
        replace cg2 := kn.cell0 cg2
        replace cg3 := kn.cell0 cg3
        replace ck0 := kn.cell0 ck0
        replace ck1 := kn.cell0 ck1
        replace cx0 := kn.cell0 cx0
        replace cx1 := kn.cell0 cx1
        replace cd0 := kn.cell0 cd0
        replace cd1 := kn.cell0 cd1
        replace cd2 := kn.cell0 cd2
        replace K := hide ((unhide K).trans kn)
        have z30 := kn.size
        clear kn
        go_wp2_with fail
        generalize (w27.alloc (.cells #[.bool S5, .slice a5 L5.length c5, .int .i64 E5] 42)) = wn31 at *
        refine (unhide mo _ (r2.tight.wider (Nat.zero_le _) (Nat.le_refl _))).mono ?_
        rintro e w32 ⟨v6, rfl, r6, k32⟩
        replace r2 := r2.kept k32 (.inr (.inr (Nat.le_refl 0)))
        replace r5 := r5.kept k32 (.inr (.inr (Nat.le_refl 0)))
        replace cf0 := k32.cell0 cf0
        replace cf1 := k32.cell0 cf1
        replace cf2 := k32.cell0 cf2
        replace cf3 := k32.cell0 cf3
        replace cg0 := k32.cell0 cg0
        replace cg1 := k32.cell0 cg1
        replace cg2 := k32.cell0 cg2
        replace cg3 := k32.cell0 cg3
        replace ck0 := k32.cell0 ck0
        replace ck1 := k32.cell0 ck1
        replace cx0 := k32.cell0 cx0
        replace cx1 := k32.cell0 cx1
        replace cd0 := k32.cell0 cd0
        replace cd1 := k32.cell0 cd1
        replace cd2 := k32.cell0 cd2
        replace ce0 := k32.cell0 ce0
        replace ce1 := k32.cell0 ce1
        replace ce2 := k32.cell0 ce2
        replace K := hide ((unhide K).trans k32)
        have z33 := k32.size
        clear k32
        clear mo
        obtain ⟨a6, c6, hv⟩ := Row.form' r6
        subst hv
        clear r2
        have kn := (Kept.refl 0 0 w32).alloc (.cells #[.bool S5, .slice a6 L5.length c6, .int .i64 E5] 42)
        have ch0 : (w32.alloc (.cells #[.bool S5, .slice a6 L5.length c6, .int .i64 E5] 42)).cell? ⟨w32.heap.size, 0, none⟩ = some (.bool S5) := new_cell2 _ _ _ _ _ _ (by simp) rfl
        have ch1 : (w32.alloc (.cells #[.bool S5, .slice a6 L5.length c6, .int .i64 E5] 42)).cell? ⟨w32.heap.size, 1, none⟩ = some (.slice a6 L5.length c6) := new_cell2 _ _ _ _ _ _ (by simp) rfl
        have ch2 : (w32.alloc (.cells #[.bool S5, .slice a6 L5.length c6, .int .i64 E5] 42)).cell? ⟨w32.heap.size, 2, none⟩ = some (.int .i64 E5) := new_cell2 _ _ _ _ _ _ (by simp) rfl
        have sz34 : w32.heap.size + 1 ≤ (w32.alloc (.cells #[.bool S5, .slice a6 L5.length c6, .int .i64 E5] 42)).heap.size := by simp
        replace r5 := r5.kept kn (.inr (.inr (Nat.le_refl 0)))
        replace r6 := r6.kept kn (.inr (.inr (Nat.le_refl 0)))
        replace cf0 := kn.cell0 cf0
        replace cf1 := kn.cell0 cf1
        replace cf2 := kn.cell0 cf2
        replace cf3 := kn.cell0 cf3
        replace cg0 := kn.cell0 cg0
        replace cg1 := kn.cell0 cg1
        replace cg2 := kn.cell0 cg2
        replace cg3 := kn.cell0 cg3
        replace ck0 := kn.cell0 ck0
        replace ck1 := kn.cell0 ck1
        replace cx0 := kn.cell0 cx0
        replace cx1 := kn.cell0 cx1
        replace cd0 := kn.cell0 cd0
        replace cd1 := kn.cell0 cd1
        replace cd2 := kn.cell0 cd2
        replace ce0 := kn.cell0 ce0
        replace ce1 := kn.cell0 ce1
        replace ce2 := kn.cell0 ce2
        replace K := hide ((unhide K).trans kn)
        have z35 := kn.size
        clear kn
        go_wp2_with fail
        generalize (w32.alloc (.cells #[.bool S5, .slice a6 L5.length c6, .int .i64 E5] 42)) = wn36 at *
        have mk := sameDy_any S5 S5 E5 E5 wn36 r5 r6
        rw [show sameDB S5 L5 E5 S5 L5 E5 = true by unfold sameDB sameL; rw [decide_eq_true rfl, decide_eq_true rfl]; cases S5 <;> rfl] at mk
        refine (mk).mono ?_
        rintro e w37 ⟨rfl, k37⟩
        replace r5 := r5.kept k37 (.inr (.inr (Nat.le_refl 0)))
        replace r6 := r6.kept k37 (.inr (.inr (Nat.le_refl 0)))
        replace cf0 := k37.cell0 cf0
        replace cf1 := k37.cell0 cf1
        replace cf2 := k37.cell0 cf2
        replace cf3 := k37.cell0 cf3
        replace cg0 := k37.cell0 cg0
        replace cg1 := k37.cell0 cg1
        replace cg2 := k37.cell0 cg2
        replace cg3 := k37.cell0 cg3
        replace ck0 := k37.cell0 ck0
        replace ck1 := k37.cell0 ck1
        replace cx0 := k37.cell0 cx0
        replace cx1 := k37.cell0 cx1
        replace cd0 := k37.cell0 cd0
        replace cd1 := k37.cell0 cd1
        replace cd2 := k37.cell0 cd2
        replace ce0 := k37.cell0 ce0
        replace ce1 := k37.cell0 ce1
        replace ce2 := k37.cell0 ce2
        replace ch0 := k37.cell0 ch0
        replace ch1 := k37.cell0 ch1
        replace ch2 := k37.cell0 ch2
        replace K := hide ((unhide K).trans k37)
        have z38 := k37.size
        clear k37
        clear mk r5 r6
        go_wp2_with fail
        go_ret
        exact ⟨rfl, (unhide K).toBelow⟩
      · have g1 : -9007199254740992 < n := by omega
        have g2 : ¬ n < 9007199254740992 := by omega
        have kd := (Kept.refl 0 0 wz).drew
        replace r2 := r2.kept kd (.inr (.inr (Nat.le_refl 0)))
        replace r1 := r1.kept kd (.inr (.inr (Nat.le_refl 0)))
        replace cf0 := kd.cell0 cf0
        replace cf1 := kd.cell0 cf1
        replace cf2 := kd.cell0 cf2
        replace cf3 := kd.cell0 cf3
        replace cg0 := kd.cell0 cg0
        replace cg1 := kd.cell0 cg1
        replace cg2 := kd.cell0 cg2
        replace cg3 := kd.cell0 cg3
        replace ck0 := kd.cell0 ck0
        replace ck1 := kd.cell0 ck1
        replace cx0 := kd.cell0 cx0
        replace cx1 := kd.cell0 cx1
        replace K := hide ((unhide K).trans kd)
        have z21 := kd.size
        clear kd
        refine wp_region_held_drew (S := (fun w' => w'.cell? ⟨w18.heap.size, 0, none⟩ = some (.bool S1) ∧ w'.cell? ⟨w18.heap.size, 1, none⟩ = some (.slice a1 L1.length c1))) (by kernel_rfl) ?_ (fun hHeld => ?_)
        · exact ⟨cx0, cx1⟩
        refine wpAnyH_take (i := 0) (oi := _) (v := .bool true) rfl (by kernel_rfl) (by kernel_rfl) (by kernel_rfl) (fun _ _ _ h => h) (Or.inl ⟨by rfl, ?_⟩) hHeld ?_
        · intro wq hSw
          try dsimp only at hSw
          go_simp
        try simp only [Act.put, List.getElem_toArray, List.getElem_cons_succ, List.getElem_cons_zero, List.setIfInBounds_toArray, List.set_cons_zero, List.set_cons_succ]
        refine wpAnyH_take (i := 1) (oi := _) (v := .bool false) rfl (by kernel_rfl) (by kernel_rfl) (by kernel_rfl) (fun _ _ _ h => h) (Or.inl ⟨by rfl, ?_⟩) hHeld ?_
        · intro wq hSw
          try dsimp only at hSw
          go_simp
        try simp only [Act.put, List.getElem_toArray, List.getElem_cons_succ, List.getElem_cons_zero, List.setIfInBounds_toArray, List.set_cons_zero, List.set_cons_succ]
        refine wpAnyH_take (i := 2) (oi := _) (v := .bool false) rfl (by kernel_rfl) (by kernel_rfl) (by kernel_rfl) (fun _ _ _ h => h) (Or.inl ⟨by rfl, ?_⟩) hHeld ?_
        · intro wq hSw
          try dsimp only at hSw
          go_simp
        try simp only [Act.put, List.getElem_toArray, List.getElem_cons_succ, List.getElem_cons_zero, List.setIfInBounds_toArray, List.set_cons_zero, List.set_cons_succ]
        refine wpAnyH_take (i := 3) (oi := _) (v := .int .i64 G) rfl (by kernel_rfl) (by kernel_rfl) (by kernel_rfl) (fun _ _ _ h => h) (Or.inl ⟨by rfl, ?_⟩) hHeld ?_
        · intro wq hSw
          try dsimp only at hSw
          go_simp
        try simp only [Act.put, List.getElem_toArray, List.getElem_cons_succ, List.getElem_cons_zero, List.setIfInBounds_toArray, List.set_cons_zero, List.set_cons_succ]
        refine wpAnyH_take (i := 4) (oi := _) (v := .bool false) rfl (by kernel_rfl) (by kernel_rfl) (by kernel_rfl) (fun _ _ _ h => h) (Or.inl ⟨by rfl, ?_⟩) hHeld ?_
        · intro wq hSw
          try dsimp only at hSw
          go_simp
        try simp only [Act.put, List.getElem_toArray, List.getElem_cons_succ, List.getElem_cons_zero, List.setIfInBounds_toArray, List.set_cons_zero, List.set_cons_succ]
        refine wpAnyH_take (i := 5) (oi := _) (v := .bool false) rfl (by kernel_rfl) (by kernel_rfl) (by kernel_rfl) (fun _ _ _ h => h) (Or.inl ⟨by rfl, ?_⟩) hHeld ?_
        · intro wq hSw
          try dsimp only at hSw
          go_simp
        try simp only [Act.put, List.getElem_toArray, List.getElem_cons_succ, List.getElem_cons_zero, List.setIfInBounds_toArray, List.set_cons_zero, List.set_cons_succ]
        refine wpAnyH_take (i := 6) (v := undef) rfl (by kernel_rfl) (by kernel_rfl) (by kernel_rfl) (fun _ _ _ h => h) (Or.inr ⟨by rfl, rfl⟩) hHeld ?_
        try simp only [Act.put, List.getElem_toArray, List.getElem_cons_succ, List.getElem_cons_zero, List.setIfInBounds_toArray, List.set_cons_zero, List.set_cons_succ]
        refine wpAnyH_take (i := 7) (v := undef) rfl (by kernel_rfl) (by kernel_rfl) (by kernel_rfl) (fun _ _ _ h => h) (Or.inr ⟨by rfl, rfl⟩) hHeld ?_
        try simp only [Act.put, List.getElem_toArray, List.getElem_cons_succ, List.getElem_cons_zero, List.setIfInBounds_toArray, List.set_cons_zero, List.set_cons_succ]
        refine wpAnyH_take (i := 8) (v := undef) rfl (by kernel_rfl) (by kernel_rfl) (by kernel_rfl) (fun _ _ _ h => h) (Or.inr ⟨by rfl, rfl⟩) hHeld ?_
        try simp only [Act.put, List.getElem_toArray, List.getElem_cons_succ, List.getElem_cons_zero, List.setIfInBounds_toArray, List.set_cons_zero, List.set_cons_succ]
        refine wpAnyH_take (i := 9) (v := undef) rfl (by kernel_rfl) (by kernel_rfl) (by kernel_rfl) (fun _ _ _ h => h) (Or.inr ⟨by rfl, rfl⟩) hHeld ?_
        try simp only [Act.put, List.getElem_toArray, List.getElem_cons_succ, List.getElem_cons_zero, List.setIfInBounds_toArray, List.set_cons_zero, List.set_cons_succ]
        refine wpAnyH_take (i := 10) (v := undef) rfl (by kernel_rfl) (by kernel_rfl) (by kernel_rfl) (fun _ _ _ h => h) (Or.inr ⟨by rfl, rfl⟩) hHeld ?_
        try simp only [Act.put, List.getElem_toArray, List.getElem_cons_succ, List.getElem_cons_zero, List.setIfInBounds_toArray, List.set_cons_zero, List.set_cons_succ]
        refine wpAnyH_take (i := 11) (oi := _) (v := .bool false) rfl (by kernel_rfl) (by kernel_rfl) (by kernel_rfl) (fun _ _ _ h => h) (Or.inl ⟨by rfl, ?_⟩) hHeld ?_
        · intro wq hSw
          try dsimp only at hSw
          go_simp
        try simp only [Act.put, List.getElem_toArray, List.getElem_cons_succ, List.getElem_cons_zero, List.setIfInBounds_toArray, List.set_cons_zero, List.set_cons_succ]
        refine wpAnyH_take (i := 12) (oi := _) (v := .bool false) rfl (by kernel_rfl) (by kernel_rfl) (by kernel_rfl) (fun _ _ _ h => h) (Or.inl ⟨by rfl, ?_⟩) hHeld ?_
        · intro wq hSw
          try dsimp only at hSw
          go_simp
        try simp only [Act.put, List.getElem_toArray, List.getElem_cons_succ, List.getElem_cons_zero, List.setIfInBounds_toArray, List.set_cons_zero, List.set_cons_succ]
        refine wpAnyH_take (i := 13) (oi := _) (v := .bool false) rfl (by kernel_rfl) (by kernel_rfl) (by kernel_rfl) (fun _ _ _ h => h) (Or.inl ⟨by rfl, ?_⟩) hHeld ?_
        · intro wq hSw
          try dsimp only at hSw
          go_simp
        try simp only [Act.put, List.getElem_toArray, List.getElem_cons_succ, List.getElem_cons_zero, List.setIfInBounds_toArray, List.set_cons_zero, List.set_cons_succ]
        refine wpAnyH_take (i := 14) (oi := _) (v := .int .i64 n) rfl (by kernel_rfl) (by kernel_rfl) (by kernel_rfl) (fun _ _ _ h => h) (Or.inl ⟨by rfl, ?_⟩) hHeld ?_
        · intro wq hSw
          try dsimp only at hSw
          go_simp
        try simp only [Act.put, List.getElem_toArray, List.getElem_cons_succ, List.getElem_cons_zero, List.setIfInBounds_toArray, List.set_cons_zero, List.set_cons_succ]
        refine wpAnyH_take (i := 15) (oi := _) (v := .bool true) rfl (by kernel_rfl) (by kernel_rfl) (by kernel_rfl) (fun _ _ _ h => h) (Or.inl ⟨by rfl, ?_⟩) hHeld ?_
        · intro wq hSw
          try dsimp only at hSw
          go_simp
        try simp only [Act.put, List.getElem_toArray, List.getElem_cons_succ, List.getElem_cons_zero, List.setIfInBounds_toArray, List.set_cons_zero, List.set_cons_succ]
        refine wpAnyH_take (i := 16) (oi := _) (v := .bool true) rfl (by kernel_rfl) (by kernel_rfl) (by kernel_rfl) (fun _ _ _ h => h) (Or.inl ⟨by rfl, ?_⟩) hHeld ?_
        · intro wq hSw
          try dsimp only at hSw
          go_simp
        try simp only [Act.put, List.getElem_toArray, List.getElem_cons_succ, List.getElem_cons_zero, List.setIfInBounds_toArray, List.set_cons_zero, List.set_cons_succ]
        refine wpAnyH_take (i := 17) (oi := _) (v := .int .i64 n) rfl (by kernel_rfl) (by kernel_rfl) (by kernel_rfl) (fun _ _ _ h => h) (Or.inl ⟨by rfl, ?_⟩) hHeld ?_
        · intro wq hSw
          try dsimp only at hSw
          go_simp
        try simp only [Act.put, List.getElem_toArray, List.getElem_cons_succ, List.getElem_cons_zero, List.setIfInBounds_toArray, List.set_cons_zero, List.set_cons_succ]
        refine wpAnyH_take (i := 18) (oi := _) (v := .bool false) rfl (by kernel_rfl) (by kernel_rfl) (by kernel_rfl) (fun _ _ _ h => h) (Or.inl ⟨by rfl, ?_⟩) hHeld ?_
        · intro wq hSw
          try dsimp only at hSw
          go_simp
        try simp only [Act.put, List.getElem_toArray, List.getElem_cons_succ, List.getElem_cons_zero, List.setIfInBounds_toArray, List.set_cons_zero, List.set_cons_succ]
        refine wpAnyH_take (i := 19) (oi := _) (v := .bool false) rfl (by kernel_rfl) (by kernel_rfl) (by kernel_rfl) (fun _ _ _ h => h) (Or.inl ⟨by rfl, ?_⟩) hHeld ?_
        · intro wq hSw
          try dsimp only at hSw
          go_simp
        try simp only [Act.put, List.getElem_toArray, List.getElem_cons_succ, List.getElem_cons_zero, List.setIfInBounds_toArray, List.set_cons_zero, List.set_cons_succ]
        refine wpAnyH_take (i := 20) (oi := _) (v := .bool false) rfl (by kernel_rfl) (by kernel_rfl) (by kernel_rfl) (fun _ _ _ h => h) (Or.inl ⟨by rfl, ?_⟩) hHeld ?_
        · intro wq hSw
          try dsimp only at hSw
          go_simp
        try simp only [Act.put, List.getElem_toArray, List.getElem_cons_succ, List.getElem_cons_zero, List.setIfInBounds_toArray, List.set_cons_zero, List.set_cons_succ]
        refine wpAnyH_take (i := 21) (v := undef) rfl (by kernel_rfl) (by kernel_rfl) (by kernel_rfl) (fun _ _ _ h => h) (Or.inr ⟨by rfl, rfl⟩) hHeld ?_
        try simp only [Act.put, List.getElem_toArray, List.getElem_cons_succ, List.getElem_cons_zero, List.setIfInBounds_toArray, List.set_cons_zero, List.set_cons_succ]
        refine wpAnyH_take (i := 22) (v := undef) rfl (by kernel_rfl) (by kernel_rfl) (by kernel_rfl) (fun _ _ _ h => h) (Or.inr ⟨by rfl, rfl⟩) hHeld ?_
        try simp only [Act.put, List.getElem_toArray, List.getElem_cons_succ, List.getElem_cons_zero, List.setIfInBounds_toArray, List.set_cons_zero, List.set_cons_succ]
        refine wpAnyH_take (i := 23) (oi := _) (v := .bool false) rfl (by kernel_rfl) (by kernel_rfl) (by kernel_rfl) (fun _ _ _ h => h) (Or.inl ⟨by rfl, ?_⟩) hHeld ?_
        · intro wq hSw
          try dsimp only at hSw
          go_simp
        try simp only [Act.put, List.getElem_toArray, List.getElem_cons_succ, List.getElem_cons_zero, List.setIfInBounds_toArray, List.set_cons_zero, List.set_cons_succ]
        refine wpAnyH_take (i := 24) (oi := _) (v := .bool false) rfl (by kernel_rfl) (by kernel_rfl) (by kernel_rfl) (fun _ _ _ h => h) (Or.inl ⟨by rfl, ?_⟩) hHeld ?_
        · intro wq hSw
          try dsimp only at hSw
          go_simp
        try simp only [Act.put, List.getElem_toArray, List.getElem_cons_succ, List.getElem_cons_zero, List.setIfInBounds_toArray, List.set_cons_zero, List.set_cons_succ]
        refine wpAnyH_done (by kernel_rfl) ?_ _
        clear hHeld
        clear r1
        go_wp2_with fail
        refine (unhide mf _ ((unhide HT).kept (unhide K))).mono ?_
        rintro e w22 ⟨v3, rfl, r3, k22⟩
        replace r2 := r2.kept k22 (.inr (.inr (Nat.le_refl 0)))
        replace cf0 := k22.cell0 cf0
        replace cf1 := k22.cell0 cf1
        replace cf2 := k22.cell0 cf2
        replace cf3 := k22.cell0 cf3
        replace cg0 := k22.cell0 cg0
        replace cg1 := k22.cell0 cg1
        replace cg2 := k22.cell0 cg2
        replace cg3 := k22.cell0 cg3
        replace ck0 := k22.cell0 ck0
        replace ck1 := k22.cell0 ck1
        replace cx0 := k22.cell0 cx0
        replace cx1 := k22.cell0 cx1
        replace K := hide ((unhide K).trans k22)
        have z23 := k22.size
        clear k22
        clear mf
        obtain ⟨a3, c3, hv⟩ := Row.form' r3
        subst hv
        cases B2
        · clear HR
          cases D3
          · clear HN
            clear r2 r3
            have kn := (Kept.refl 0 0 w22).alloc (.cells #[.bool S3, .slice a3 L3.length c3, .int .i64 E3] 42)
            have cd0 : (w22.alloc (.cells #[.bool S3, .slice a3 L3.length c3, .int .i64 E3] 42)).cell? ⟨w22.heap.size, 0, none⟩ = some (.bool S3) := new_cell2 _ _ _ _ _ _ (by simp) rfl
            have cd1 : (w22.alloc (.cells #[.bool S3, .slice a3 L3.length c3, .int .i64 E3] 42)).cell? ⟨w22.heap.size, 1, none⟩ = some (.slice a3 L3.length c3) := new_cell2 _ _ _ _ _ _ (by simp) rfl
            have cd2 : (w22.alloc (.cells #[.bool S3, .slice a3 L3.length c3, .int .i64 E3] 42)).cell? ⟨w22.heap.size, 2, none⟩ = some (.int .i64 E3) := new_cell2 _ _ _ _ _ _ (by simp) rfl
            have sz24 : w22.heap.size + 1 ≤ (w22.alloc (.cells #[.bool S3, .slice a3 L3.length c3, .int .i64 E3] 42)).heap.size := by simp
            replace cf0 := kn.cell0 cf0
            replace cf1 := kn.cell0 cf1
            replace cf2 := kn.cell0 cf2
            replace cf3 := kn.cell0 cf3
            replace cg0 := kn.cell0 cg0
            replace cg1 := kn.cell0 cg1
            replace cg2 := kn.cell0 cg2
            replace cg3 := kn.cell0 cg3
            replace ck0 := kn.cell0 ck0
            replace ck1 := kn.cell0 ck1
            replace cx0 := kn.cell0 cx0
            replace cx1 := kn.cell0 cx1
            replace K := hide ((unhide K).trans kn)
            have z25 := kn.size
            clear kn
            go_wp2_with fail
            generalize (w22.alloc (.cells #[.bool S3, .slice a3 L3.length c3, .int .i64 E3] 42)) = wn26 at *
            go_ret
            exact ⟨rfl, (unhide K).toBelow⟩
          rcases unhide HN rfl rfl with ho | ho
          · clear HN
            clear r2 r3
            have kn := (Kept.refl 0 0 w22).alloc (.cells #[.bool S3, .slice a3 L3.length c3, .int .i64 E3] 42)
            have cd0 : (w22.alloc (.cells #[.bool S3, .slice a3 L3.length c3, .int .i64 E3] 42)).cell? ⟨w22.heap.size, 0, none⟩ = some (.bool S3) := new_cell2 _ _ _ _ _ _ (by simp) rfl
            have cd1 : (w22.alloc (.cells #[.bool S3, .slice a3 L3.length c3, .int .i64 E3] 42)).cell? ⟨w22.heap.size, 1, none⟩ = some (.slice a3 L3.length c3) := new_cell2 _ _ _ _ _ _ (by simp) rfl
            have cd2 : (w22.alloc (.cells #[.bool S3, .slice a3 L3.length c3, .int .i64 E3] 42)).cell? ⟨w22.heap.size, 2, none⟩ = some (.int .i64 E3) := new_cell2 _ _ _ _ _ _ (by simp) rfl
            have sz24 : w22.heap.size + 1 ≤ (w22.alloc (.cells #[.bool S3, .slice a3 L3.length c3, .int .i64 E3] 42)).heap.size := by simp
            replace cf0 := kn.cell0 cf0
            replace cf1 := kn.cell0 cf1
            replace cf2 := kn.cell0 cf2
            replace cf3 := kn.cell0 cf3
            replace cg0 := kn.cell0 cg0
            replace cg1 := kn.cell0 cg1
            replace cg2 := kn.cell0 cg2
            replace cg3 := kn.cell0 cg3
            replace ck0 := kn.cell0 ck0
            replace ck1 := kn.cell0 ck1
            replace cx0 := kn.cell0 cx0
            replace cx1 := kn.cell0 cx1
            replace K := hide ((unhide K).trans kn)
            have z25 := kn.size
            clear kn
            go_wp2_with fail
            generalize (w22.alloc (.cells #[.bool S3, .slice a3 L3.length c3, .int .i64 E3] 42)) = wn26 at *
            go_ret
            exact ⟨congrArg (fun b => Ending.returned (.bool b)) (by simp [ho]), (unhide K).toBelow⟩
          · have ho2 : ¬ how < 0 := by omega
            clear HN
            clear r2 r3
            have kn := (Kept.refl 0 0 w22).alloc (.cells #[.bool S3, .slice a3 L3.length c3, .int .i64 E3] 42)
            have cd0 : (w22.alloc (.cells #[.bool S3, .slice a3 L3.length c3, .int .i64 E3] 42)).cell? ⟨w22.heap.size, 0, none⟩ = some (.bool S3) := new_cell2 _ _ _ _ _ _ (by simp) rfl
            have cd1 : (w22.alloc (.cells #[.bool S3, .slice a3 L3.length c3, .int .i64 E3] 42)).cell? ⟨w22.heap.size, 1, none⟩ = some (.slice a3 L3.length c3) := new_cell2 _ _ _ _ _ _ (by simp) rfl
            have cd2 : (w22.alloc (.cells #[.bool S3, .slice a3 L3.length c3, .int .i64 E3] 42)).cell? ⟨w22.heap.size, 2, none⟩ = some (.int .i64 E3) := new_cell2 _ _ _ _ _ _ (by simp) rfl
            have sz24 : w22.heap.size + 1 ≤ (w22.alloc (.cells #[.bool S3, .slice a3 L3.length c3, .int .i64 E3] 42)).heap.size := by simp
            replace cf0 := kn.cell0 cf0
            replace cf1 := kn.cell0 cf1
            replace cf2 := kn.cell0 cf2
            replace cf3 := kn.cell0 cf3
            replace cg0 := kn.cell0 cg0
            replace cg1 := kn.cell0 cg1
            replace cg2 := kn.cell0 cg2
            replace cg3 := kn.cell0 cg3
            replace ck0 := kn.cell0 ck0
            replace ck1 := kn.cell0 ck1
            replace cx0 := kn.cell0 cx0
            replace cx1 := kn.cell0 cx1
            replace K := hide ((unhide K).trans kn)
            have z25 := kn.size
            clear kn
            go_wp2_with fail
            generalize (w22.alloc (.cells #[.bool S3, .slice a3 L3.length c3, .int .i64 E3] 42)) = wn26 at *
            go_ret
            exact ⟨congrArg (fun b => Ending.returned (.bool b)) (by simp [ho]), (unhide K).toBelow⟩
        obtain ⟨⟨q1, q2⟩, q3, q4, q5⟩ := unhide HR rfl
        clear HR HN
        have mr := fun (w : World) (T : TabB w) (r : Row .i64 true 0 w.heap.size w (.slice a3 L3.length c3) L3) => dround_impl S3 E3 q1 q2 0 how w r T
        have mo := fun (w : World) (r : Row .i64 true 0 w.heap.size w (.slice a2 L2.length c2) L2) => dof_spec S2 0 w r
        simp only [q3, q5] at mr
        simp only [q4] at mo
        obtain ⟨S5, hS5⟩ : ∃ y, ansDS true (wval S2 L2) 0 = y := ⟨_, rfl⟩
        obtain ⟨L5, hL5⟩ : ∃ y, ansDL true (wval S2 L2) 0 = y := ⟨_, rfl⟩
        obtain ⟨E5, hE5⟩ : ∃ y, ansDE true (wval S2 L2) 0 = y := ⟨_, rfl⟩
        obtain ⟨B5, hB5⟩ : ∃ y, ansDB true (wval S2 L2) 0 = y := ⟨_, rfl⟩
        obtain ⟨X5, hX5⟩ : ∃ y, (true && rndX (scN (val L3).toNat (E3 - (0 - 1))) (scL (val L3).toNat (E3 - (0 - 1)))) = y := ⟨_, rfl⟩
        simp only [hS5, hL5, hE5, hB5, hX5] at mr
        simp only [hS5, hL5, hE5, hB5] at mo
        replace mr := hide mr
        replace mo := hide mo
        clear hS5 hL5 hE5 hB5 hX5 q1 q2 q3 q4 q5
        have kn := (Kept.refl 0 0 w22).alloc (.cells #[.bool S3, .slice a3 L3.length c3, .int .i64 E3] 42)
        have cd0 : (w22.alloc (.cells #[.bool S3, .slice a3 L3.length c3, .int .i64 E3] 42)).cell? ⟨w22.heap.size, 0, none⟩ = some (.bool S3) := new_cell2 _ _ _ _ _ _ (by simp) rfl
        have cd1 : (w22.alloc (.cells #[.bool S3, .slice a3 L3.length c3, .int .i64 E3] 42)).cell? ⟨w22.heap.size, 1, none⟩ = some (.slice a3 L3.length c3) := new_cell2 _ _ _ _ _ _ (by simp) rfl
        have cd2 : (w22.alloc (.cells #[.bool S3, .slice a3 L3.length c3, .int .i64 E3] 42)).cell? ⟨w22.heap.size, 2, none⟩ = some (.int .i64 E3) := new_cell2 _ _ _ _ _ _ (by simp) rfl
        have sz24 : w22.heap.size + 1 ≤ (w22.alloc (.cells #[.bool S3, .slice a3 L3.length c3, .int .i64 E3] 42)).heap.size := by simp
        replace r2 := r2.kept kn (.inr (.inr (Nat.le_refl 0)))
        replace r3 := r3.kept kn (.inr (.inr (Nat.le_refl 0)))
        replace cf0 := kn.cell0 cf0
        replace cf1 := kn.cell0 cf1
        replace cf2 := kn.cell0 cf2
        replace cf3 := kn.cell0 cf3
        replace cg0 := kn.cell0 cg0
        replace cg1 := kn.cell0 cg1
        replace cg2 := kn.cell0 cg2
        replace cg3 := kn.cell0 cg3
        replace ck0 := kn.cell0 ck0
        replace ck1 := kn.cell0 ck1
        replace cx0 := kn.cell0 cx0
        replace cx1 := kn.cell0 cx1
        replace K := hide ((unhide K).trans kn)
        have z25 := kn.size
        clear kn
        go_wp2_with fail
        generalize (w22.alloc (.cells #[.bool S3, .slice a3 L3.length c3, .int .i64 E3] 42)) = wn26 at *
        refine (unhide mr _ ((unhide HT).kept (unhide K)) (r3.tight.wider (Nat.zero_le _) (Nat.le_refl _))).mono ?_
        rintro e w27 ⟨v5, rfl, r5, k27⟩
        replace r2 := r2.kept k27 (.inr (.inr (Nat.le_refl 0)))
        replace r3 := r3.kept k27 (.inr (.inr (Nat.le_refl 0)))
        replace cf0 := k27.cell0 cf0
        replace cf1 := k27.cell0 cf1
        replace cf2 := k27.cell0 cf2
        replace cf3 := k27.cell0 cf3
        replace cg0 := k27.cell0 cg0
        replace cg1 := k27.cell0 cg1
        replace cg2 := k27.cell0 cg2
        replace cg3 := k27.cell0 cg3
        replace ck0 := k27.cell0 ck0
        replace ck1 := k27.cell0 ck1
        replace cx0 := k27.cell0 cx0
        replace cx1 := k27.cell0 cx1
        replace cd0 := k27.cell0 cd0
        replace cd1 := k27.cell0 cd1
        replace cd2 := k27.cell0 cd2
        replace K := hide ((unhide K).trans k27)
        have z28 := k27.size
        clear k27
        clear mr
        obtain ⟨a5, c5, hv⟩ := Row.form' r5
        subst hv
        clear r3
        have kn := (Kept.refl 0 0 w27).alloc (.cells #[.bool S5, .slice a5 L5.length c5, .int .i64 E5] 42)
        have ce0 : (w27.alloc (.cells #[.bool S5, .slice a5 L5.length c5, .int .i64 E5] 42)).cell? ⟨w27.heap.size, 0, none⟩ = some (.bool S5) := new_cell2 _ _ _ _ _ _ (by simp) rfl
        have ce1 : (w27.alloc (.cells #[.bool S5, .slice a5 L5.length c5, .int .i64 E5] 42)).cell? ⟨w27.heap.size, 1, none⟩ = some (.slice a5 L5.length c5) := new_cell2 _ _ _ _ _ _ (by simp) rfl
        have ce2 : (w27.alloc (.cells #[.bool S5, .slice a5 L5.length c5, .int .i64 E5] 42)).cell? ⟨w27.heap.size, 2, none⟩ = some (.int .i64 E5) := new_cell2 _ _ _ _ _ _ (by simp) rfl
        have sz29 : w27.heap.size + 1 ≤ (w27.alloc (.cells #[.bool S5, .slice a5 L5.length c5, .int .i64 E5] 42)).heap.size := by simp
        replace r2 := r2.kept kn (.inr (.inr (Nat.le_refl 0)))
        replace r5 := r5.kept kn (.inr (.inr (Nat.le_refl 0)))
        replace cf0 := kn.cell0 cf0
        replace cf1 := kn.cell0 cf1
        replace cf2 := kn.cell0 cf2
        replace cf3 := kn.cell0 cf3
        replace cg0 := kn.cell0 cg0
        replace cg1 := kn.cell0 cg1
        replace cg2 := kn.cell0 cg2
        replace cg3 := kn.cell0 cg3
        replace ck0 := kn.cell0 ck0
        replace ck1 := kn.cell0 ck1
        replace cx0 := kn.cell0 cx0
        replace cx1 := kn.cell0 cx1
        replace cd0 := kn.cell0 cd0
        replace cd1 := kn.cell0 cd1
        replace cd2 := kn.cell0 cd2
        replace K := hide ((unhide K).trans kn)
        have z30 := kn.size
        clear kn
        go_wp2_with fail
        generalize (w27.alloc (.cells #[.bool S5, .slice a5 L5.length c5, .int .i64 E5] 42)) = wn31 at *
        refine (unhide mo _ (r2.tight.wider (Nat.zero_le _) (Nat.le_refl _))).mono ?_
        rintro e w32 ⟨v6, rfl, r6, k32⟩
        replace r2 := r2.kept k32 (.inr (.inr (Nat.le_refl 0)))
        replace r5 := r5.kept k32 (.inr (.inr (Nat.le_refl 0)))
        replace cf0 := k32.cell0 cf0
        replace cf1 := k32.cell0 cf1
        replace cf2 := k32.cell0 cf2
        replace cf3 := k32.cell0 cf3
        replace cg0 := k32.cell0 cg0
        replace cg1 := k32.cell0 cg1
        replace cg2 := k32.cell0 cg2
        replace cg3 := k32.cell0 cg3
        replace ck0 := k32.cell0 ck0
        replace ck1 := k32.cell0 ck1
        replace cx0 := k32.cell0 cx0
        replace cx1 := k32.cell0 cx1
        replace cd0 := k32.cell0 cd0
        replace cd1 := k32.cell0 cd1
        replace cd2 := k32.cell0 cd2
        replace ce0 := k32.cell0 ce0
        replace ce1 := k32.cell0 ce1
        replace ce2 := k32.cell0 ce2
        replace K := hide ((unhide K).trans k32)
        have z33 := k32.size
        clear k32
        clear mo
        obtain ⟨a6, c6, hv⟩ := Row.form' r6
        subst hv
        clear r2
        have kn := (Kept.refl 0 0 w32).alloc (.cells #[.bool S5, .slice a6 L5.length c6, .int .i64 E5] 42)
        have ch0 : (w32.alloc (.cells #[.bool S5, .slice a6 L5.length c6, .int .i64 E5] 42)).cell? ⟨w32.heap.size, 0, none⟩ = some (.bool S5) := new_cell2 _ _ _ _ _ _ (by simp) rfl
        have ch1 : (w32.alloc (.cells #[.bool S5, .slice a6 L5.length c6, .int .i64 E5] 42)).cell? ⟨w32.heap.size, 1, none⟩ = some (.slice a6 L5.length c6) := new_cell2 _ _ _ _ _ _ (by simp) rfl
        have ch2 : (w32.alloc (.cells #[.bool S5, .slice a6 L5.length c6, .int .i64 E5] 42)).cell? ⟨w32.heap.size, 2, none⟩ = some (.int .i64 E5) := new_cell2 _ _ _ _ _ _ (by simp) rfl
        have sz34 : w32.heap.size + 1 ≤ (w32.alloc (.cells #[.bool S5, .slice a6 L5.length c6, .int .i64 E5] 42)).heap.size := by simp
        replace r5 := r5.kept kn (.inr (.inr (Nat.le_refl 0)))
        replace r6 := r6.kept kn (.inr (.inr (Nat.le_refl 0)))
        replace cf0 := kn.cell0 cf0
        replace cf1 := kn.cell0 cf1
        replace cf2 := kn.cell0 cf2
        replace cf3 := kn.cell0 cf3
        replace cg0 := kn.cell0 cg0
        replace cg1 := kn.cell0 cg1
        replace cg2 := kn.cell0 cg2
        replace cg3 := kn.cell0 cg3
        replace ck0 := kn.cell0 ck0
        replace ck1 := kn.cell0 ck1
        replace cx0 := kn.cell0 cx0
        replace cx1 := kn.cell0 cx1
        replace cd0 := kn.cell0 cd0
        replace cd1 := kn.cell0 cd1
        replace cd2 := kn.cell0 cd2
        replace ce0 := kn.cell0 ce0
        replace ce1 := kn.cell0 ce1
        replace ce2 := kn.cell0 ce2
        replace K := hide ((unhide K).trans kn)
        have z35 := kn.size
        clear kn
        go_wp2_with fail
        generalize (w32.alloc (.cells #[.bool S5, .slice a6 L5.length c6, .int .i64 E5] 42)) = wn36 at *
        have mk := sameDy_any S5 S5 E5 E5 wn36 r5 r6
        rw [show sameDB S5 L5 E5 S5 L5 E5 = true by unfold sameDB sameL; rw [decide_eq_true rfl, decide_eq_true rfl]; cases S5 <;> rfl] at mk
        refine (mk).mono ?_
        rintro e w37 ⟨rfl, k37⟩
        replace r5 := r5.kept k37 (.inr (.inr (Nat.le_refl 0)))
        replace r6 := r6.kept k37 (.inr (.inr (Nat.le_refl 0)))
        replace cf0 := k37.cell0 cf0
        replace cf1 := k37.cell0 cf1
        replace cf2 := k37.cell0 cf2
        replace cf3 := k37.cell0 cf3
        replace cg0 := k37.cell0 cg0
        replace cg1 := k37.cell0 cg1
        replace cg2 := k37.cell0 cg2
        replace cg3 := k37.cell0 cg3
        replace ck0 := k37.cell0 ck0
        replace ck1 := k37.cell0 ck1
        replace cx0 := k37.cell0 cx0
        replace cx1 := k37.cell0 cx1
        replace cd0 := k37.cell0 cd0
        replace cd1 := k37.cell0 cd1
        replace cd2 := k37.cell0 cd2
        replace ce0 := k37.cell0 ce0
        replace ce1 := k37.cell0 ce1
        replace ce2 := k37.cell0 ce2
        replace ch0 := k37.cell0 ch0
        replace ch1 := k37.cell0 ch1
        replace ch2 := k37.cell0 ch2
        replace K := hide ((unhide K).trans k37)
        have z38 := k37.size
        clear k37
        clear mk r5 r6
        go_wp2_with fail
        go_ret
        exact ⟨rfl, (unhide K).toBelow⟩
  · clear HL
    rcases (show md < 0 ∨ 4 < md by omega) with h9 | h9
    · have h8 : ¬ 0 ≤ md := by omega
      clear hmd
      have kn := (Kept.refl 0 0 w13).alloc (.cells #[.bool S2, .slice a2 L2.length c2] 40)
      have ck0 : (w13.alloc (.cells #[.bool S2, .slice a2 L2.length c2] 40)).cell? ⟨w13.heap.size, 0, none⟩ = some (.bool S2) := new_cell2 _ _ _ _ _ _ (by simp) rfl
      have ck1 : (w13.alloc (.cells #[.bool S2, .slice a2 L2.length c2] 40)).cell? ⟨w13.heap.size, 1, none⟩ = some (.slice a2 L2.length c2) := new_cell2 _ _ _ _ _ _ (by simp) rfl
      have sz15 : w13.heap.size + 1 ≤ (w13.alloc (.cells #[.bool S2, .slice a2 L2.length c2] 40)).heap.size := by simp
      replace r2 := r2.kept kn (.inr (.inr (Nat.le_refl 0)))
      replace cf0 := kn.cell0 cf0
      replace cf1 := kn.cell0 cf1
      replace cf2 := kn.cell0 cf2
      replace cf3 := kn.cell0 cf3
      replace cg0 := kn.cell0 cg0
      replace cg1 := kn.cell0 cg1
      replace cg2 := kn.cell0 cg2
      replace cg3 := kn.cell0 cg3
      replace K := hide ((unhide K).trans kn)
      have z16 := kn.size
      clear kn
      go_wp2_with fail
      generalize (w13.alloc (.cells #[.bool S2, .slice a2 L2.length c2] 40)) = wn17 at *
      refine (unhide mf _ ((unhide HT).kept (unhide K))).mono ?_
      rintro e w18 ⟨v3, rfl, r3, k18⟩
      replace r2 := r2.kept k18 (.inr (.inr (Nat.le_refl 0)))
      replace cf0 := k18.cell0 cf0
      replace cf1 := k18.cell0 cf1
      replace cf2 := k18.cell0 cf2
      replace cf3 := k18.cell0 cf3
      replace cg0 := k18.cell0 cg0
      replace cg1 := k18.cell0 cg1
      replace cg2 := k18.cell0 cg2
      replace cg3 := k18.cell0 cg3
      replace ck0 := k18.cell0 ck0
      replace ck1 := k18.cell0 ck1
      replace K := hide ((unhide K).trans k18)
      have z19 := k18.size
      clear k18
      clear mf
      obtain ⟨a3, c3, hv⟩ := Row.form' r3
      subst hv
      cases B2
      · clear HR
        cases D3
        · clear HN
          clear r2 r3
          have kn := (Kept.refl 0 0 w18).alloc (.cells #[.bool S3, .slice a3 L3.length c3, .int .i64 E3] 42)
          have cd0 : (w18.alloc (.cells #[.bool S3, .slice a3 L3.length c3, .int .i64 E3] 42)).cell? ⟨w18.heap.size, 0, none⟩ = some (.bool S3) := new_cell2 _ _ _ _ _ _ (by simp) rfl
          have cd1 : (w18.alloc (.cells #[.bool S3, .slice a3 L3.length c3, .int .i64 E3] 42)).cell? ⟨w18.heap.size, 1, none⟩ = some (.slice a3 L3.length c3) := new_cell2 _ _ _ _ _ _ (by simp) rfl
          have cd2 : (w18.alloc (.cells #[.bool S3, .slice a3 L3.length c3, .int .i64 E3] 42)).cell? ⟨w18.heap.size, 2, none⟩ = some (.int .i64 E3) := new_cell2 _ _ _ _ _ _ (by simp) rfl
          have sz20 : w18.heap.size + 1 ≤ (w18.alloc (.cells #[.bool S3, .slice a3 L3.length c3, .int .i64 E3] 42)).heap.size := by simp
          replace cf0 := kn.cell0 cf0
          replace cf1 := kn.cell0 cf1
          replace cf2 := kn.cell0 cf2
          replace cf3 := kn.cell0 cf3
          replace cg0 := kn.cell0 cg0
          replace cg1 := kn.cell0 cg1
          replace cg2 := kn.cell0 cg2
          replace cg3 := kn.cell0 cg3
          replace ck0 := kn.cell0 ck0
          replace ck1 := kn.cell0 ck1
          replace K := hide ((unhide K).trans kn)
          have z21 := kn.size
          clear kn
          go_wp2_with fail
          generalize (w18.alloc (.cells #[.bool S3, .slice a3 L3.length c3, .int .i64 E3] 42)) = wn22 at *
          go_ret
          exact ⟨rfl, (unhide K).toBelow⟩
        rcases unhide HN rfl rfl with ho | ho
        · clear HN
          clear r2 r3
          have kn := (Kept.refl 0 0 w18).alloc (.cells #[.bool S3, .slice a3 L3.length c3, .int .i64 E3] 42)
          have cd0 : (w18.alloc (.cells #[.bool S3, .slice a3 L3.length c3, .int .i64 E3] 42)).cell? ⟨w18.heap.size, 0, none⟩ = some (.bool S3) := new_cell2 _ _ _ _ _ _ (by simp) rfl
          have cd1 : (w18.alloc (.cells #[.bool S3, .slice a3 L3.length c3, .int .i64 E3] 42)).cell? ⟨w18.heap.size, 1, none⟩ = some (.slice a3 L3.length c3) := new_cell2 _ _ _ _ _ _ (by simp) rfl
          have cd2 : (w18.alloc (.cells #[.bool S3, .slice a3 L3.length c3, .int .i64 E3] 42)).cell? ⟨w18.heap.size, 2, none⟩ = some (.int .i64 E3) := new_cell2 _ _ _ _ _ _ (by simp) rfl
          have sz20 : w18.heap.size + 1 ≤ (w18.alloc (.cells #[.bool S3, .slice a3 L3.length c3, .int .i64 E3] 42)).heap.size := by simp
          replace cf0 := kn.cell0 cf0
          replace cf1 := kn.cell0 cf1
          replace cf2 := kn.cell0 cf2
          replace cf3 := kn.cell0 cf3
          replace cg0 := kn.cell0 cg0
          replace cg1 := kn.cell0 cg1
          replace cg2 := kn.cell0 cg2
          replace cg3 := kn.cell0 cg3
          replace ck0 := kn.cell0 ck0
          replace ck1 := kn.cell0 ck1
          replace K := hide ((unhide K).trans kn)
          have z21 := kn.size
          clear kn
          go_wp2_with fail
          generalize (w18.alloc (.cells #[.bool S3, .slice a3 L3.length c3, .int .i64 E3] 42)) = wn22 at *
          go_ret
          exact ⟨congrArg (fun b => Ending.returned (.bool b)) (by simp [ho]), (unhide K).toBelow⟩
        · have ho2 : ¬ how < 0 := by omega
          clear HN
          clear r2 r3
          have kn := (Kept.refl 0 0 w18).alloc (.cells #[.bool S3, .slice a3 L3.length c3, .int .i64 E3] 42)
          have cd0 : (w18.alloc (.cells #[.bool S3, .slice a3 L3.length c3, .int .i64 E3] 42)).cell? ⟨w18.heap.size, 0, none⟩ = some (.bool S3) := new_cell2 _ _ _ _ _ _ (by simp) rfl
          have cd1 : (w18.alloc (.cells #[.bool S3, .slice a3 L3.length c3, .int .i64 E3] 42)).cell? ⟨w18.heap.size, 1, none⟩ = some (.slice a3 L3.length c3) := new_cell2 _ _ _ _ _ _ (by simp) rfl
          have cd2 : (w18.alloc (.cells #[.bool S3, .slice a3 L3.length c3, .int .i64 E3] 42)).cell? ⟨w18.heap.size, 2, none⟩ = some (.int .i64 E3) := new_cell2 _ _ _ _ _ _ (by simp) rfl
          have sz20 : w18.heap.size + 1 ≤ (w18.alloc (.cells #[.bool S3, .slice a3 L3.length c3, .int .i64 E3] 42)).heap.size := by simp
          replace cf0 := kn.cell0 cf0
          replace cf1 := kn.cell0 cf1
          replace cf2 := kn.cell0 cf2
          replace cf3 := kn.cell0 cf3
          replace cg0 := kn.cell0 cg0
          replace cg1 := kn.cell0 cg1
          replace cg2 := kn.cell0 cg2
          replace cg3 := kn.cell0 cg3
          replace ck0 := kn.cell0 ck0
          replace ck1 := kn.cell0 ck1
          replace K := hide ((unhide K).trans kn)
          have z21 := kn.size
          clear kn
          go_wp2_with fail
          generalize (w18.alloc (.cells #[.bool S3, .slice a3 L3.length c3, .int .i64 E3] 42)) = wn22 at *
          go_ret
          exact ⟨congrArg (fun b => Ending.returned (.bool b)) (by simp [ho]), (unhide K).toBelow⟩
      obtain ⟨⟨q1, q2⟩, q3, q4, q5⟩ := unhide HR rfl
      clear HR HN
      have mr := fun (w : World) (T : TabB w) (r : Row .i64 true 0 w.heap.size w (.slice a3 L3.length c3) L3) => dround_impl S3 E3 q1 q2 0 how w r T
      have mo := fun (w : World) (r : Row .i64 true 0 w.heap.size w (.slice a2 L2.length c2) L2) => dof_spec S2 0 w r
      simp only [q3, q5] at mr
      simp only [q4] at mo
      obtain ⟨S5, hS5⟩ : ∃ y, ansDS true (wval S2 L2) 0 = y := ⟨_, rfl⟩
      obtain ⟨L5, hL5⟩ : ∃ y, ansDL true (wval S2 L2) 0 = y := ⟨_, rfl⟩
      obtain ⟨E5, hE5⟩ : ∃ y, ansDE true (wval S2 L2) 0 = y := ⟨_, rfl⟩
      obtain ⟨B5, hB5⟩ : ∃ y, ansDB true (wval S2 L2) 0 = y := ⟨_, rfl⟩
      obtain ⟨X5, hX5⟩ : ∃ y, (true && rndX (scN (val L3).toNat (E3 - (0 - 1))) (scL (val L3).toNat (E3 - (0 - 1)))) = y := ⟨_, rfl⟩
      simp only [hS5, hL5, hE5, hB5, hX5] at mr
      simp only [hS5, hL5, hE5, hB5] at mo
      replace mr := hide mr
      replace mo := hide mo
      clear hS5 hL5 hE5 hB5 hX5 q1 q2 q3 q4 q5
      have kn := (Kept.refl 0 0 w18).alloc (.cells #[.bool S3, .slice a3 L3.length c3, .int .i64 E3] 42)
      have cd0 : (w18.alloc (.cells #[.bool S3, .slice a3 L3.length c3, .int .i64 E3] 42)).cell? ⟨w18.heap.size, 0, none⟩ = some (.bool S3) := new_cell2 _ _ _ _ _ _ (by simp) rfl
      have cd1 : (w18.alloc (.cells #[.bool S3, .slice a3 L3.length c3, .int .i64 E3] 42)).cell? ⟨w18.heap.size, 1, none⟩ = some (.slice a3 L3.length c3) := new_cell2 _ _ _ _ _ _ (by simp) rfl
      have cd2 : (w18.alloc (.cells #[.bool S3, .slice a3 L3.length c3, .int .i64 E3] 42)).cell? ⟨w18.heap.size, 2, none⟩ = some (.int .i64 E3) := new_cell2 _ _ _ _ _ _ (by simp) rfl
      have sz20 : w18.heap.size + 1 ≤ (w18.alloc (.cells #[.bool S3, .slice a3 L3.length c3, .int .i64 E3] 42)).heap.size := by simp
      replace r2 := r2.kept kn (.inr (.inr (Nat.le_refl 0)))
      replace r3 := r3.kept kn (.inr (.inr (Nat.le_refl 0)))
      replace cf0 := kn.cell0 cf0
      replace cf1 := kn.cell0 cf1
      replace cf2 := kn.cell0 cf2
      replace cf3 := kn.cell0 cf3
      replace cg0 := kn.cell0 cg0
      replace cg1 := kn.cell0 cg1
      replace cg2 := kn.cell0 cg2
      replace cg3 := kn.cell0 cg3
      replace ck0 := kn.cell0 ck0
      replace ck1 := kn.cell0 ck1
      replace K := hide ((unhide K).trans kn)
      have z21 := kn.size
      clear kn
      go_wp2_with fail
      generalize (w18.alloc (.cells #[.bool S3, .slice a3 L3.length c3, .int .i64 E3] 42)) = wn22 at *
      refine (unhide mr _ ((unhide HT).kept (unhide K)) (r3.tight.wider (Nat.zero_le _) (Nat.le_refl _))).mono ?_
      rintro e w23 ⟨v5, rfl, r5, k23⟩
      replace r2 := r2.kept k23 (.inr (.inr (Nat.le_refl 0)))
      replace r3 := r3.kept k23 (.inr (.inr (Nat.le_refl 0)))
      replace cf0 := k23.cell0 cf0
      replace cf1 := k23.cell0 cf1
      replace cf2 := k23.cell0 cf2
      replace cf3 := k23.cell0 cf3
      replace cg0 := k23.cell0 cg0
      replace cg1 := k23.cell0 cg1
      replace cg2 := k23.cell0 cg2
      replace cg3 := k23.cell0 cg3
      replace ck0 := k23.cell0 ck0
      replace ck1 := k23.cell0 ck1
      replace cd0 := k23.cell0 cd0
      replace cd1 := k23.cell0 cd1
      replace cd2 := k23.cell0 cd2
      replace K := hide ((unhide K).trans k23)
      have z24 := k23.size
      clear k23
      clear mr
      obtain ⟨a5, c5, hv⟩ := Row.form' r5
      subst hv
      clear r3
      have kn := (Kept.refl 0 0 w23).alloc (.cells #[.bool S5, .slice a5 L5.length c5, .int .i64 E5] 42)
      have ce0 : (w23.alloc (.cells #[.bool S5, .slice a5 L5.length c5, .int .i64 E5] 42)).cell? ⟨w23.heap.size, 0, none⟩ = some (.bool S5) := new_cell2 _ _ _ _ _ _ (by simp) rfl
      have ce1 : (w23.alloc (.cells #[.bool S5, .slice a5 L5.length c5, .int .i64 E5] 42)).cell? ⟨w23.heap.size, 1, none⟩ = some (.slice a5 L5.length c5) := new_cell2 _ _ _ _ _ _ (by simp) rfl
      have ce2 : (w23.alloc (.cells #[.bool S5, .slice a5 L5.length c5, .int .i64 E5] 42)).cell? ⟨w23.heap.size, 2, none⟩ = some (.int .i64 E5) := new_cell2 _ _ _ _ _ _ (by simp) rfl
      have sz25 : w23.heap.size + 1 ≤ (w23.alloc (.cells #[.bool S5, .slice a5 L5.length c5, .int .i64 E5] 42)).heap.size := by simp
      replace r2 := r2.kept kn (.inr (.inr (Nat.le_refl 0)))
      replace r5 := r5.kept kn (.inr (.inr (Nat.le_refl 0)))
      replace cf0 := kn.cell0 cf0
      replace cf1 := kn.cell0 cf1
      replace cf2 := kn.cell0 cf2
      replace cf3 := kn.cell0 cf3
      replace cg0 := kn.cell0 cg0
      replace cg1 := kn.cell0 cg1
      replace cg2 := kn.cell0 cg2
      replace cg3 := kn.cell0 cg3
      replace ck0 := kn.cell0 ck0
      replace ck1 := kn.cell0 ck1
      replace cd0 := kn.cell0 cd0
      replace cd1 := kn.cell0 cd1
      replace cd2 := kn.cell0 cd2
      replace K := hide ((unhide K).trans kn)
      have z26 := kn.size
      clear kn
      go_wp2_with fail
      generalize (w23.alloc (.cells #[.bool S5, .slice a5 L5.length c5, .int .i64 E5] 42)) = wn27 at *
      refine (unhide mo _ (r2.tight.wider (Nat.zero_le _) (Nat.le_refl _))).mono ?_
      rintro e w28 ⟨v6, rfl, r6, k28⟩
      replace r2 := r2.kept k28 (.inr (.inr (Nat.le_refl 0)))
      replace r5 := r5.kept k28 (.inr (.inr (Nat.le_refl 0)))
      replace cf0 := k28.cell0 cf0
      replace cf1 := k28.cell0 cf1
      replace cf2 := k28.cell0 cf2
      replace cf3 := k28.cell0 cf3
      replace cg0 := k28.cell0 cg0
      replace cg1 := k28.cell0 cg1
      replace cg2 := k28.cell0 cg2
      replace cg3 := k28.cell0 cg3
      replace ck0 := k28.cell0 ck0
      replace ck1 := k28.cell0 ck1
      replace cd0 := k28.cell0 cd0
      replace cd1 := k28.cell0 cd1
      replace cd2 := k28.cell0 cd2
      replace ce0 := k28.cell0 ce0
      replace ce1 := k28.cell0 ce1
      replace ce2 := k28.cell0 ce2
      replace K := hide ((unhide K).trans k28)
      have z29 := k28.size
      clear k28
      clear mo
      obtain ⟨a6, c6, hv⟩ := Row.form' r6
      subst hv
      clear r2
      have kn := (Kept.refl 0 0 w28).alloc (.cells #[.bool S5, .slice a6 L5.length c6, .int .i64 E5] 42)
      have ch0 : (w28.alloc (.cells #[.bool S5, .slice a6 L5.length c6, .int .i64 E5] 42)).cell? ⟨w28.heap.size, 0, none⟩ = some (.bool S5) := new_cell2 _ _ _ _ _ _ (by simp) rfl
      have ch1 : (w28.alloc (.cells #[.bool S5, .slice a6 L5.length c6, .int .i64 E5] 42)).cell? ⟨w28.heap.size, 1, none⟩ = some (.slice a6 L5.length c6) := new_cell2 _ _ _ _ _ _ (by simp) rfl
      have ch2 : (w28.alloc (.cells #[.bool S5, .slice a6 L5.length c6, .int .i64 E5] 42)).cell? ⟨w28.heap.size, 2, none⟩ = some (.int .i64 E5) := new_cell2 _ _ _ _ _ _ (by simp) rfl
      have sz30 : w28.heap.size + 1 ≤ (w28.alloc (.cells #[.bool S5, .slice a6 L5.length c6, .int .i64 E5] 42)).heap.size := by simp
      replace r5 := r5.kept kn (.inr (.inr (Nat.le_refl 0)))
      replace r6 := r6.kept kn (.inr (.inr (Nat.le_refl 0)))
      replace cf0 := kn.cell0 cf0
      replace cf1 := kn.cell0 cf1
      replace cf2 := kn.cell0 cf2
      replace cf3 := kn.cell0 cf3
      replace cg0 := kn.cell0 cg0
      replace cg1 := kn.cell0 cg1
      replace cg2 := kn.cell0 cg2
      replace cg3 := kn.cell0 cg3
      replace ck0 := kn.cell0 ck0
      replace ck1 := kn.cell0 ck1
      replace cd0 := kn.cell0 cd0
      replace cd1 := kn.cell0 cd1
      replace cd2 := kn.cell0 cd2
      replace ce0 := kn.cell0 ce0
      replace ce1 := kn.cell0 ce1
      replace ce2 := kn.cell0 ce2
      replace K := hide ((unhide K).trans kn)
      have z31 := kn.size
      clear kn
      go_wp2_with fail
      generalize (w28.alloc (.cells #[.bool S5, .slice a6 L5.length c6, .int .i64 E5] 42)) = wn32 at *
      have mk := sameDy_any S5 S5 E5 E5 wn32 r5 r6
      rw [show sameDB S5 L5 E5 S5 L5 E5 = true by unfold sameDB sameL; rw [decide_eq_true rfl, decide_eq_true rfl]; cases S5 <;> rfl] at mk
      refine (mk).mono ?_
      rintro e w33 ⟨rfl, k33⟩
      replace r5 := r5.kept k33 (.inr (.inr (Nat.le_refl 0)))
      replace r6 := r6.kept k33 (.inr (.inr (Nat.le_refl 0)))
      replace cf0 := k33.cell0 cf0
      replace cf1 := k33.cell0 cf1
      replace cf2 := k33.cell0 cf2
      replace cf3 := k33.cell0 cf3
      replace cg0 := k33.cell0 cg0
      replace cg1 := k33.cell0 cg1
      replace cg2 := k33.cell0 cg2
      replace cg3 := k33.cell0 cg3
      replace ck0 := k33.cell0 ck0
      replace ck1 := k33.cell0 ck1
      replace cd0 := k33.cell0 cd0
      replace cd1 := k33.cell0 cd1
      replace cd2 := k33.cell0 cd2
      replace ce0 := k33.cell0 ce0
      replace ce1 := k33.cell0 ce1
      replace ce2 := k33.cell0 ce2
      replace ch0 := k33.cell0 ch0
      replace ch1 := k33.cell0 ch1
      replace ch2 := k33.cell0 ch2
      replace K := hide ((unhide K).trans k33)
      have z34 := k33.size
      clear k33
      clear mk r5 r6
      go_wp2_with fail
      go_ret
      exact ⟨rfl, (unhide K).toBelow⟩
    · have h8 : ¬ md < 0 := by omega
      have h7 : ¬ md ≤ 4 := by omega
      have h6 : 0 ≤ md := by omega
      clear hmd
      have kn := (Kept.refl 0 0 w13).alloc (.cells #[.bool S2, .slice a2 L2.length c2] 40)
      have ck0 : (w13.alloc (.cells #[.bool S2, .slice a2 L2.length c2] 40)).cell? ⟨w13.heap.size, 0, none⟩ = some (.bool S2) := new_cell2 _ _ _ _ _ _ (by simp) rfl
      have ck1 : (w13.alloc (.cells #[.bool S2, .slice a2 L2.length c2] 40)).cell? ⟨w13.heap.size, 1, none⟩ = some (.slice a2 L2.length c2) := new_cell2 _ _ _ _ _ _ (by simp) rfl
      have sz15 : w13.heap.size + 1 ≤ (w13.alloc (.cells #[.bool S2, .slice a2 L2.length c2] 40)).heap.size := by simp
      replace r2 := r2.kept kn (.inr (.inr (Nat.le_refl 0)))
      replace cf0 := kn.cell0 cf0
      replace cf1 := kn.cell0 cf1
      replace cf2 := kn.cell0 cf2
      replace cf3 := kn.cell0 cf3
      replace cg0 := kn.cell0 cg0
      replace cg1 := kn.cell0 cg1
      replace cg2 := kn.cell0 cg2
      replace cg3 := kn.cell0 cg3
      replace K := hide ((unhide K).trans kn)
      have z16 := kn.size
      clear kn
      go_wp2_with fail
      generalize (w13.alloc (.cells #[.bool S2, .slice a2 L2.length c2] 40)) = wn17 at *
      refine (unhide mf _ ((unhide HT).kept (unhide K))).mono ?_
      rintro e w18 ⟨v3, rfl, r3, k18⟩
      replace r2 := r2.kept k18 (.inr (.inr (Nat.le_refl 0)))
      replace cf0 := k18.cell0 cf0
      replace cf1 := k18.cell0 cf1
      replace cf2 := k18.cell0 cf2
      replace cf3 := k18.cell0 cf3
      replace cg0 := k18.cell0 cg0
      replace cg1 := k18.cell0 cg1
      replace cg2 := k18.cell0 cg2
      replace cg3 := k18.cell0 cg3
      replace ck0 := k18.cell0 ck0
      replace ck1 := k18.cell0 ck1
      replace K := hide ((unhide K).trans k18)
      have z19 := k18.size
      clear k18
      clear mf
      obtain ⟨a3, c3, hv⟩ := Row.form' r3
      subst hv
      cases B2
      · clear HR
        cases D3
        · clear HN
          clear r2 r3
          have kn := (Kept.refl 0 0 w18).alloc (.cells #[.bool S3, .slice a3 L3.length c3, .int .i64 E3] 42)
          have cd0 : (w18.alloc (.cells #[.bool S3, .slice a3 L3.length c3, .int .i64 E3] 42)).cell? ⟨w18.heap.size, 0, none⟩ = some (.bool S3) := new_cell2 _ _ _ _ _ _ (by simp) rfl
          have cd1 : (w18.alloc (.cells #[.bool S3, .slice a3 L3.length c3, .int .i64 E3] 42)).cell? ⟨w18.heap.size, 1, none⟩ = some (.slice a3 L3.length c3) := new_cell2 _ _ _ _ _ _ (by simp) rfl
          have cd2 : (w18.alloc (.cells #[.bool S3, .slice a3 L3.length c3, .int .i64 E3] 42)).cell? ⟨w18.heap.size, 2, none⟩ = some (.int .i64 E3) := new_cell2 _ _ _ _ _ _ (by simp) rfl
          have sz20 : w18.heap.size + 1 ≤ (w18.alloc (.cells #[.bool S3, .slice a3 L3.length c3, .int .i64 E3] 42)).heap.size := by simp
          replace cf0 := kn.cell0 cf0
          replace cf1 := kn.cell0 cf1
          replace cf2 := kn.cell0 cf2
          replace cf3 := kn.cell0 cf3
          replace cg0 := kn.cell0 cg0
          replace cg1 := kn.cell0 cg1
          replace cg2 := kn.cell0 cg2
          replace cg3 := kn.cell0 cg3
          replace ck0 := kn.cell0 ck0
          replace ck1 := kn.cell0 ck1
          replace K := hide ((unhide K).trans kn)
          have z21 := kn.size
          clear kn
          go_wp2_with fail
          generalize (w18.alloc (.cells #[.bool S3, .slice a3 L3.length c3, .int .i64 E3] 42)) = wn22 at *
          go_ret
          exact ⟨rfl, (unhide K).toBelow⟩
        rcases unhide HN rfl rfl with ho | ho
        · clear HN
          clear r2 r3
          have kn := (Kept.refl 0 0 w18).alloc (.cells #[.bool S3, .slice a3 L3.length c3, .int .i64 E3] 42)
          have cd0 : (w18.alloc (.cells #[.bool S3, .slice a3 L3.length c3, .int .i64 E3] 42)).cell? ⟨w18.heap.size, 0, none⟩ = some (.bool S3) := new_cell2 _ _ _ _ _ _ (by simp) rfl
          have cd1 : (w18.alloc (.cells #[.bool S3, .slice a3 L3.length c3, .int .i64 E3] 42)).cell? ⟨w18.heap.size, 1, none⟩ = some (.slice a3 L3.length c3) := new_cell2 _ _ _ _ _ _ (by simp) rfl
          have cd2 : (w18.alloc (.cells #[.bool S3, .slice a3 L3.length c3, .int .i64 E3] 42)).cell? ⟨w18.heap.size, 2, none⟩ = some (.int .i64 E3) := new_cell2 _ _ _ _ _ _ (by simp) rfl
          have sz20 : w18.heap.size + 1 ≤ (w18.alloc (.cells #[.bool S3, .slice a3 L3.length c3, .int .i64 E3] 42)).heap.size := by simp
          replace cf0 := kn.cell0 cf0
          replace cf1 := kn.cell0 cf1
          replace cf2 := kn.cell0 cf2
          replace cf3 := kn.cell0 cf3
          replace cg0 := kn.cell0 cg0
          replace cg1 := kn.cell0 cg1
          replace cg2 := kn.cell0 cg2
          replace cg3 := kn.cell0 cg3
          replace ck0 := kn.cell0 ck0
          replace ck1 := kn.cell0 ck1
          replace K := hide ((unhide K).trans kn)
          have z21 := kn.size
          clear kn
          go_wp2_with fail
          generalize (w18.alloc (.cells #[.bool S3, .slice a3 L3.length c3, .int .i64 E3] 42)) = wn22 at *
          go_ret
          exact ⟨congrArg (fun b => Ending.returned (.bool b)) (by simp [ho]), (unhide K).toBelow⟩
        · have ho2 : ¬ how < 0 := by omega
          clear HN
          clear r2 r3
          have kn := (Kept.refl 0 0 w18).alloc (.cells #[.bool S3, .slice a3 L3.length c3, .int .i64 E3] 42)
          have cd0 : (w18.alloc (.cells #[.bool S3, .slice a3 L3.length c3, .int .i64 E3] 42)).cell? ⟨w18.heap.size, 0, none⟩ = some (.bool S3) := new_cell2 _ _ _ _ _ _ (by simp) rfl
          have cd1 : (w18.alloc (.cells #[.bool S3, .slice a3 L3.length c3, .int .i64 E3] 42)).cell? ⟨w18.heap.size, 1, none⟩ = some (.slice a3 L3.length c3) := new_cell2 _ _ _ _ _ _ (by simp) rfl
          have cd2 : (w18.alloc (.cells #[.bool S3, .slice a3 L3.length c3, .int .i64 E3] 42)).cell? ⟨w18.heap.size, 2, none⟩ = some (.int .i64 E3) := new_cell2 _ _ _ _ _ _ (by simp) rfl
          have sz20 : w18.heap.size + 1 ≤ (w18.alloc (.cells #[.bool S3, .slice a3 L3.length c3, .int .i64 E3] 42)).heap.size := by simp
          replace cf0 := kn.cell0 cf0
          replace cf1 := kn.cell0 cf1
          replace cf2 := kn.cell0 cf2
          replace cf3 := kn.cell0 cf3
          replace cg0 := kn.cell0 cg0
          replace cg1 := kn.cell0 cg1
          replace cg2 := kn.cell0 cg2
          replace cg3 := kn.cell0 cg3
          replace ck0 := kn.cell0 ck0
          replace ck1 := kn.cell0 ck1
          replace K := hide ((unhide K).trans kn)
          have z21 := kn.size
          clear kn
          go_wp2_with fail
          generalize (w18.alloc (.cells #[.bool S3, .slice a3 L3.length c3, .int .i64 E3] 42)) = wn22 at *
          go_ret
          exact ⟨congrArg (fun b => Ending.returned (.bool b)) (by simp [ho]), (unhide K).toBelow⟩
      obtain ⟨⟨q1, q2⟩, q3, q4, q5⟩ := unhide HR rfl
      clear HR HN
      have mr := fun (w : World) (T : TabB w) (r : Row .i64 true 0 w.heap.size w (.slice a3 L3.length c3) L3) => dround_impl S3 E3 q1 q2 0 how w r T
      have mo := fun (w : World) (r : Row .i64 true 0 w.heap.size w (.slice a2 L2.length c2) L2) => dof_spec S2 0 w r
      simp only [q3, q5] at mr
      simp only [q4] at mo
      obtain ⟨S5, hS5⟩ : ∃ y, ansDS true (wval S2 L2) 0 = y := ⟨_, rfl⟩
      obtain ⟨L5, hL5⟩ : ∃ y, ansDL true (wval S2 L2) 0 = y := ⟨_, rfl⟩
      obtain ⟨E5, hE5⟩ : ∃ y, ansDE true (wval S2 L2) 0 = y := ⟨_, rfl⟩
      obtain ⟨B5, hB5⟩ : ∃ y, ansDB true (wval S2 L2) 0 = y := ⟨_, rfl⟩
      obtain ⟨X5, hX5⟩ : ∃ y, (true && rndX (scN (val L3).toNat (E3 - (0 - 1))) (scL (val L3).toNat (E3 - (0 - 1)))) = y := ⟨_, rfl⟩
      simp only [hS5, hL5, hE5, hB5, hX5] at mr
      simp only [hS5, hL5, hE5, hB5] at mo
      replace mr := hide mr
      replace mo := hide mo
      clear hS5 hL5 hE5 hB5 hX5 q1 q2 q3 q4 q5
      have kn := (Kept.refl 0 0 w18).alloc (.cells #[.bool S3, .slice a3 L3.length c3, .int .i64 E3] 42)
      have cd0 : (w18.alloc (.cells #[.bool S3, .slice a3 L3.length c3, .int .i64 E3] 42)).cell? ⟨w18.heap.size, 0, none⟩ = some (.bool S3) := new_cell2 _ _ _ _ _ _ (by simp) rfl
      have cd1 : (w18.alloc (.cells #[.bool S3, .slice a3 L3.length c3, .int .i64 E3] 42)).cell? ⟨w18.heap.size, 1, none⟩ = some (.slice a3 L3.length c3) := new_cell2 _ _ _ _ _ _ (by simp) rfl
      have cd2 : (w18.alloc (.cells #[.bool S3, .slice a3 L3.length c3, .int .i64 E3] 42)).cell? ⟨w18.heap.size, 2, none⟩ = some (.int .i64 E3) := new_cell2 _ _ _ _ _ _ (by simp) rfl
      have sz20 : w18.heap.size + 1 ≤ (w18.alloc (.cells #[.bool S3, .slice a3 L3.length c3, .int .i64 E3] 42)).heap.size := by simp
      replace r2 := r2.kept kn (.inr (.inr (Nat.le_refl 0)))
      replace r3 := r3.kept kn (.inr (.inr (Nat.le_refl 0)))
      replace cf0 := kn.cell0 cf0
      replace cf1 := kn.cell0 cf1
      replace cf2 := kn.cell0 cf2
      replace cf3 := kn.cell0 cf3
      replace cg0 := kn.cell0 cg0
      replace cg1 := kn.cell0 cg1
      replace cg2 := kn.cell0 cg2
      replace cg3 := kn.cell0 cg3
      replace ck0 := kn.cell0 ck0
      replace ck1 := kn.cell0 ck1
      replace K := hide ((unhide K).trans kn)
      have z21 := kn.size
      clear kn
      go_wp2_with fail
      generalize (w18.alloc (.cells #[.bool S3, .slice a3 L3.length c3, .int .i64 E3] 42)) = wn22 at *
      refine (unhide mr _ ((unhide HT).kept (unhide K)) (r3.tight.wider (Nat.zero_le _) (Nat.le_refl _))).mono ?_
      rintro e w23 ⟨v5, rfl, r5, k23⟩
      replace r2 := r2.kept k23 (.inr (.inr (Nat.le_refl 0)))
      replace r3 := r3.kept k23 (.inr (.inr (Nat.le_refl 0)))
      replace cf0 := k23.cell0 cf0
      replace cf1 := k23.cell0 cf1
      replace cf2 := k23.cell0 cf2
      replace cf3 := k23.cell0 cf3
      replace cg0 := k23.cell0 cg0
      replace cg1 := k23.cell0 cg1
      replace cg2 := k23.cell0 cg2
      replace cg3 := k23.cell0 cg3
      replace ck0 := k23.cell0 ck0
      replace ck1 := k23.cell0 ck1
      replace cd0 := k23.cell0 cd0
      replace cd1 := k23.cell0 cd1
      replace cd2 := k23.cell0 cd2
      replace K := hide ((unhide K).trans k23)
      have z24 := k23.size
      clear k23
      clear mr
      obtain ⟨a5, c5, hv⟩ := Row.form' r5
      subst hv
      clear r3
      have kn := (Kept.refl 0 0 w23).alloc (.cells #[.bool S5, .slice a5 L5.length c5, .int .i64 E5] 42)
      have ce0 : (w23.alloc (.cells #[.bool S5, .slice a5 L5.length c5, .int .i64 E5] 42)).cell? ⟨w23.heap.size, 0, none⟩ = some (.bool S5) := new_cell2 _ _ _ _ _ _ (by simp) rfl
      have ce1 : (w23.alloc (.cells #[.bool S5, .slice a5 L5.length c5, .int .i64 E5] 42)).cell? ⟨w23.heap.size, 1, none⟩ = some (.slice a5 L5.length c5) := new_cell2 _ _ _ _ _ _ (by simp) rfl
      have ce2 : (w23.alloc (.cells #[.bool S5, .slice a5 L5.length c5, .int .i64 E5] 42)).cell? ⟨w23.heap.size, 2, none⟩ = some (.int .i64 E5) := new_cell2 _ _ _ _ _ _ (by simp) rfl
      have sz25 : w23.heap.size + 1 ≤ (w23.alloc (.cells #[.bool S5, .slice a5 L5.length c5, .int .i64 E5] 42)).heap.size := by simp
      replace r2 := r2.kept kn (.inr (.inr (Nat.le_refl 0)))
      replace r5 := r5.kept kn (.inr (.inr (Nat.le_refl 0)))
      replace cf0 := kn.cell0 cf0
      replace cf1 := kn.cell0 cf1
      replace cf2 := kn.cell0 cf2
      replace cf3 := kn.cell0 cf3
      replace cg0 := kn.cell0 cg0
      replace cg1 := kn.cell0 cg1
      replace cg2 := kn.cell0 cg2
      replace cg3 := kn.cell0 cg3
      replace ck0 := kn.cell0 ck0
      replace ck1 := kn.cell0 ck1
      replace cd0 := kn.cell0 cd0
      replace cd1 := kn.cell0 cd1
      replace cd2 := kn.cell0 cd2
      replace K := hide ((unhide K).trans kn)
      have z26 := kn.size
      clear kn
      go_wp2_with fail
      generalize (w23.alloc (.cells #[.bool S5, .slice a5 L5.length c5, .int .i64 E5] 42)) = wn27 at *
      refine (unhide mo _ (r2.tight.wider (Nat.zero_le _) (Nat.le_refl _))).mono ?_
      rintro e w28 ⟨v6, rfl, r6, k28⟩
      replace r2 := r2.kept k28 (.inr (.inr (Nat.le_refl 0)))
      replace r5 := r5.kept k28 (.inr (.inr (Nat.le_refl 0)))
      replace cf0 := k28.cell0 cf0
      replace cf1 := k28.cell0 cf1
      replace cf2 := k28.cell0 cf2
      replace cf3 := k28.cell0 cf3
      replace cg0 := k28.cell0 cg0
      replace cg1 := k28.cell0 cg1
      replace cg2 := k28.cell0 cg2
      replace cg3 := k28.cell0 cg3
      replace ck0 := k28.cell0 ck0
      replace ck1 := k28.cell0 ck1
      replace cd0 := k28.cell0 cd0
      replace cd1 := k28.cell0 cd1
      replace cd2 := k28.cell0 cd2
      replace ce0 := k28.cell0 ce0
      replace ce1 := k28.cell0 ce1
      replace ce2 := k28.cell0 ce2
      replace K := hide ((unhide K).trans k28)
      have z29 := k28.size
      clear k28
      clear mo
      obtain ⟨a6, c6, hv⟩ := Row.form' r6
      subst hv
      clear r2
      have kn := (Kept.refl 0 0 w28).alloc (.cells #[.bool S5, .slice a6 L5.length c6, .int .i64 E5] 42)
      have ch0 : (w28.alloc (.cells #[.bool S5, .slice a6 L5.length c6, .int .i64 E5] 42)).cell? ⟨w28.heap.size, 0, none⟩ = some (.bool S5) := new_cell2 _ _ _ _ _ _ (by simp) rfl
      have ch1 : (w28.alloc (.cells #[.bool S5, .slice a6 L5.length c6, .int .i64 E5] 42)).cell? ⟨w28.heap.size, 1, none⟩ = some (.slice a6 L5.length c6) := new_cell2 _ _ _ _ _ _ (by simp) rfl
      have ch2 : (w28.alloc (.cells #[.bool S5, .slice a6 L5.length c6, .int .i64 E5] 42)).cell? ⟨w28.heap.size, 2, none⟩ = some (.int .i64 E5) := new_cell2 _ _ _ _ _ _ (by simp) rfl
      have sz30 : w28.heap.size + 1 ≤ (w28.alloc (.cells #[.bool S5, .slice a6 L5.length c6, .int .i64 E5] 42)).heap.size := by simp
      replace r5 := r5.kept kn (.inr (.inr (Nat.le_refl 0)))
      replace r6 := r6.kept kn (.inr (.inr (Nat.le_refl 0)))
      replace cf0 := kn.cell0 cf0
      replace cf1 := kn.cell0 cf1
      replace cf2 := kn.cell0 cf2
      replace cf3 := kn.cell0 cf3
      replace cg0 := kn.cell0 cg0
      replace cg1 := kn.cell0 cg1
      replace cg2 := kn.cell0 cg2
      replace cg3 := kn.cell0 cg3
      replace ck0 := kn.cell0 ck0
      replace ck1 := kn.cell0 ck1
      replace cd0 := kn.cell0 cd0
      replace cd1 := kn.cell0 cd1
      replace cd2 := kn.cell0 cd2
      replace ce0 := kn.cell0 ce0
      replace ce1 := kn.cell0 ce1
      replace ce2 := kn.cell0 ce2
      replace K := hide ((unhide K).trans kn)
      have z31 := kn.size
      clear kn
      go_wp2_with fail
      generalize (w28.alloc (.cells #[.bool S5, .slice a6 L5.length c6, .int .i64 E5] 42)) = wn32 at *
      have mk := sameDy_any S5 S5 E5 E5 wn32 r5 r6
      rw [show sameDB S5 L5 E5 S5 L5 E5 = true by unfold sameDB sameL; rw [decide_eq_true rfl, decide_eq_true rfl]; cases S5 <;> rfl] at mk
      refine (mk).mono ?_
      rintro e w33 ⟨rfl, k33⟩
      replace r5 := r5.kept k33 (.inr (.inr (Nat.le_refl 0)))
      replace r6 := r6.kept k33 (.inr (.inr (Nat.le_refl 0)))
      replace cf0 := k33.cell0 cf0
      replace cf1 := k33.cell0 cf1
      replace cf2 := k33.cell0 cf2
      replace cf3 := k33.cell0 cf3
      replace cg0 := k33.cell0 cg0
      replace cg1 := k33.cell0 cg1
      replace cg2 := k33.cell0 cg2
      replace cg3 := k33.cell0 cg3
      replace ck0 := k33.cell0 ck0
      replace ck1 := k33.cell0 ck1
      replace cd0 := k33.cell0 cd0
      replace cd1 := k33.cell0 cd1
      replace cd2 := k33.cell0 cd2
      replace ce0 := k33.cell0 ce0
      replace ce1 := k33.cell0 ce1
      replace ce2 := k33.cell0 ce2
      replace ch0 := k33.cell0 ch0
      replace ch1 := k33.cell0 ch1
      replace ch2 := k33.cell0 ch2
      replace K := hide ((unhide K).trans k33)
      have z34 := k33.size
      clear k33
      clear mk r5 r6
      go_wp2_with fail
      go_ret
      exact ⟨rfl, (unhide K).toBelow⟩

end Go.Proofs.YtckaecmkidplhaaGreatDoor

