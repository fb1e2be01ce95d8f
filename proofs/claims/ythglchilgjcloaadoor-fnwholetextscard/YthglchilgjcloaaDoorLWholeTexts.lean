/-
  The walk of the law FnWholeTexts: it returns true at every code.
-/
import Derived.Test.YthglchilgjcloaaDoorTxtN
import Derived.Test.YthglchilgjcloaaDoorWr2
import Derived.Test.YthglchilgjcloaaDoorDrawW
import Derived.Test.YthglchilgjcloaaDoorLawN
import Derived.Test.YthglchilgjcloaaDoorDig4
import Derived.Test.YthglchilgjcloaaDoorIWh4
namespace Go.Proofs.YthglchilgjcloaaDoor
open Go.RowKit
set_option linter.unusedVariables false
set_option maxRecDepth 8000
set_option linter.unusedSimpArgs false

theorem runesL_low {zs : List Int} (h : ∀ i, i < zs.length → zs.getD i 0 < 128) : ∀ (f p : Nat), zs.length ≤ p + f → runesL zs f p = zs.drop p
  | 0, p, hf => by rw [runesL_end zs 0 p (by omega), List.drop_of_length_le (by omega)]
  | f + 1, p, hf => by
    by_cases hp : p < zs.length
    · have hd : drune zs p = (zs.getD p 0, 1) := by unfold drune; rw [if_pos (h p hp)]
      rw [runesL_step zs f p hp, hd]
      have ih := runesL_low h f (p + 1) (by omega)
      show zs.getD p 0 :: runesL zs f (p + (1 : Int).toNat) = _
      rw [show p + (1 : Int).toNat = p + 1 from rfl, ih, List.drop_eq_getElem_cons hp]
      simp [List.getD, hp]
    · rw [runesL_end zs (f + 1) p hp, List.drop_of_length_le (by omega)]
theorem getD_mem {zs : List Int} {i : Nat} (h : i < zs.length) : zs.getD i 0 ∈ zs := by
  simp only [List.getD, List.getElem?_eq_getElem h, Option.getD_some]
  exact List.getElem_mem h
theorem runes_low {zs : List Int} (h : ∀ z ∈ zs, z < 128) (hl : zs.length ≤ 400) : runes zs = zs := by
  unfold runes
  rw [if_neg (by omega), runesL_low (fun i hi => h _ (getD_mem hi)) _ 0 (by omega), List.drop_zero]
theorem pr_dig {z : Int} (h : 48 ≤ z ∧ z ≤ 57) : pr z = z := by
  have hd : dig z = z - 48 := by
    unfold dig digs
    rw [if_pos (by omega)]
  unfold pr
  rw [hd, if_pos (by omega)]
  omega
theorem plainL_same {zs : List Int} (h : ∀ z ∈ zs, z = 45 ∨ 48 ≤ z ∧ z ≤ 57) : plainL zs = zs := by
  induction zs with
  | nil => rfl
  | cons a t ih =>
    have ha := h a (List.mem_cons_self ..)
    have hp : pr a = a := by
      rcases ha with e | e
      · subst e; decide
      · exact pr_dig e
    rw [plainL, hp, rb_small (by omega) (by omega), ih (fun z hz => h z (List.mem_cons_of_mem _ hz))]
    rfl
theorem sgt_mem (s : Bool) (n : Nat) : ∀ z ∈ sgt s n, z = 45 ∨ 48 ≤ z ∧ z ≤ 57 := by
  intro z hz
  unfold sgt at hz
  cases s
  · exact .inr (decText_mem n z hz)
  · rcases List.mem_cons.1 hz with e | e
    · exact .inl e
    · exact .inr (decText_mem n z e)
theorem sgt_pln {s : Bool} {n : Nat} (hl : (sgt s n).length ≤ 400) : pln (sgt s n) = sgt s n := by
  unfold pln
  rw [runes_low (fun z hz => by have := sgt_mem s n z hz; omega) hl, plainL_same (sgt_mem s n)]
theorem wt_all {s : Bool} {xs : List Int} (o : wokB s xs = true) (hl : (wtx s xs).length ≤ 400) : wrC (wtx s xs) = true ∧ wrX (wtx s xs) = wval s xs := by
  have e : wtx s xs = sgt s (val xs).toNat := by unfold wtx; rw [if_pos o]
  rw [e] at hl ⊢
  have ex : limbs (val xs).toNat = xs := (nrm_limbs ((okB_iff xs).1 (wok_ok o)).2).symm
  unfold wrC wrX
  rw [sgt_pln hl]
  have key : wrD (sgt s (val xs).toNat) = decText (val xs).toNat ∧ wrN (sgt s (val xs).toNat) = s := by
    cases s
    · have h0 : 0 < (decText (val xs).toNat).length := List.length_pos_iff.2 (decText_some _)
      have h1 := decText_mem _ _ (getD_mem h0)
      show wrD (decText (val xs).toNat) = _ ∧ wrN (decText (val xs).toNat) = false
      refine ⟨wrD_no (by omega), ?_⟩
      unfold wrN
      exact decide_eq_false (by omega)
    · exact ⟨wrD_yes (.inl rfl), rfl⟩
  rw [key.1, key.2, isDig_decText, digN_decText, ex]
  exact ⟨rfl, rfl⟩
theorem wt_back {s : Bool} {xs : List Int} (o : wokB s xs = true) : ansWB true (wval s xs) = true ∧ ansWS true (wval s xs) = s ∧ ansWL true (wval s xs) = xs := by
  obtain ⟨e1, e2, e3, -⟩ := wok_int o
  have e4 : wlm (wval s xs) = xs := e2.symm
  have e5 : ansWB true (wval s xs) = true := by rw [ansWB_yes rfl, e4]; exact decide_eq_true e3
  refine ⟨e5, by unfold ansWS; rw [e5]; exact e1.symm, ?_⟩
  unfold ansWL
  rw [if_pos e5, e4]
theorem wtx_bytes (s : Bool) (xs : List Int) : Bytes (wtx s xs) := by
  intro z hz
  unfold wtx at hz
  split at hz
  · have := sgt_mem _ _ z hz; omega
  · cases hz

set_option maxHeartbeats 1000000 in
theorem sameWhole_any {b1 b2 : Bool} {l1 h1 l2 h2 : Nat} {v1 v2 : Value} {xs ys : List Int} (s1 s2 : Bool) (w : World) (r1 : Row .i64 b1 l1 h1 w v1 xs) (r2 : Row .i64 b2 l2 h2 w v2 ys) :
    Calls Tryd.prog 17 #[.agg #[.bool s1, v1], .agg #[.bool s2, v2]] w fun e w' => e = .returned (.bool (decide (s1 = s2) && sameL xs ys)) ∧ Kept 0 0 w w' := by
  have k0 : Kept 0 0 w ((w.alloc (.cells #[.bool s1, v1] 27)).alloc (.cells #[.bool s2, v2] 27)) := (((Kept.refl 0 0 w).alloc (.cells #[.bool s1, v1] 27)).alloc (.cells #[.bool s2, v2] 27))
  have p0 : ((w.alloc (.cells #[.bool s1, v1] 27)).alloc (.cells #[.bool s2, v2] 27)).cell? ⟨w.heap.size, 0, none⟩ = some (.bool s1) := old_cell _ (new_cell2 _ _ _ _ _ _ (by simp) rfl)
  have p1 : ((w.alloc (.cells #[.bool s1, v1] 27)).alloc (.cells #[.bool s2, v2] 27)).cell? ⟨w.heap.size, 1, none⟩ = some (v1) := old_cell _ (new_cell2 _ _ _ _ _ _ (by simp) rfl)
  have t0 : ((w.alloc (.cells #[.bool s1, v1] 27)).alloc (.cells #[.bool s2, v2] 27)).cell? ⟨w.heap.size + 1, 0, none⟩ = some (.bool s2) := new_cell2 _ _ _ _ _ _ (by simp) rfl
  have t1 : ((w.alloc (.cells #[.bool s1, v1] 27)).alloc (.cells #[.bool s2, v2] 27)).cell? ⟨w.heap.size + 1, 1, none⟩ = some (v2) := new_cell2 _ _ _ _ _ _ (by simp) rfl
  replace r1 := r1.kept k0 (by omega)
  replace r2 := r2.kept k0 (by omega)
  have s0 : ((w.alloc (.cells #[.bool s1, v1] 27)).alloc (.cells #[.bool s2, v2] 27)).heap.size = w.heap.size + 2 := by simp
  obtain ⟨a1, c1, hv⟩ := r1.form'
  subst hv
  obtain ⟨a2, c2, hv⟩ := r2.form'
  subst hv
  have K := hide (k0)
  clear k0
  have S0 := hide s0
  clear s0
  obtain ⟨BB, hBB⟩ : ∃ y, sameL xs ys = y := ⟨_, rfl⟩
  rw [hBB]
  have HBB := hide hBB
  clear hBB
  cases s1 <;> cases s2
  · go_enter Tryd.func17, Tryd.ntmps17
    go_wp2_with fail
    generalize ((w.alloc (.cells #[.bool false, .slice a1 xs.length c1] 27)).alloc (.cells #[.bool false, .slice a2 ys.length c2] 27)) = W at *
    have mk := sameNat_any W r1 r2
    rw [unhide HBB] at mk
    refine (mk).mono ?_
    rintro e w1 ⟨rfl, k1⟩
    replace r1 := r1.kept k1 (.inr (.inr (Nat.le_refl 0)))
    replace r2 := r2.kept k1 (.inr (.inr (Nat.le_refl 0)))
    replace p0 := k1.cell0 p0
    replace p1 := k1.cell0 p1
    replace t0 := k1.cell0 t0
    replace t1 := k1.cell0 t1
    replace K := hide ((unhide K).trans k1)
    have z2 := k1.size
    clear k1
    clear mk
    go_wp2_with fail
    go_ret
    exact ⟨by simp, unhide K⟩
  · go_enter Tryd.func17, Tryd.ntmps17
    go_wp2_with fail
    go_ret
    exact ⟨by simp, unhide K⟩
  · go_enter Tryd.func17, Tryd.ntmps17
    go_wp2_with fail
    go_ret
    exact ⟨by simp, unhide K⟩
  · go_enter Tryd.func17, Tryd.ntmps17
    go_wp2_with fail
    generalize ((w.alloc (.cells #[.bool true, .slice a1 xs.length c1] 27)).alloc (.cells #[.bool true, .slice a2 ys.length c2] 27)) = W at *
    have mk := sameNat_any W r1 r2
    rw [unhide HBB] at mk
    refine (mk).mono ?_
    rintro e w1 ⟨rfl, k1⟩
    replace r1 := r1.kept k1 (.inr (.inr (Nat.le_refl 0)))
    replace r2 := r2.kept k1 (.inr (.inr (Nat.le_refl 0)))
    replace p0 := k1.cell0 p0
    replace p1 := k1.cell0 p1
    replace t0 := k1.cell0 t0
    replace t1 := k1.cell0 t1
    replace K := hide ((unhide K).trans k1)
    have z2 := k1.size
    clear k1
    clear mk
    go_wp2_with fail
    go_ret
    exact ⟨by simp, unhide K⟩

theorem sameWhole_same {b1 b2 : Bool} {l1 h1 l2 h2 : Nat} {v1 v2 : Value} {xs : List Int} (s : Bool) (w : World) (r1 : Row .i64 b1 l1 h1 w v1 xs) (r2 : Row .i64 b2 l2 h2 w v2 xs) :
    Calls Tryd.prog 17 #[.agg #[.bool s, v1], .agg #[.bool s, v2]] w fun e w' => e = .returned (.bool true) ∧ Kept 0 0 w w' := by
  have mk := sameWhole_any s s w r1 r2
  rw [show (decide (s = s) && sameL xs xs) = true from by rw [decide_eq_true rfl, show sameL xs xs = true from decide_eq_true rfl]; rfl] at mk
  exact mk

set_option maxHeartbeats 4000000 in
theorem drawWT_any {bw : Bool} {lo hi : Nat} {v : Value} {bs : List Int} (w : World) (r : Row .u8 bw lo hi w v bs) (b : Bytes bs) :
    Calls Tryd.prog 13 #[v] w fun e w' => ∃ v1 s1 zs, e = .returned (.agg #[.bool s1, v1]) ∧ Row .i64 true w.heap.size w'.heap.size w' v1 zs ∧ Kept 0 0 w w' := by
  have k0 : Kept 0 0 w (w.alloc (.cells #[.bool false, .slice none 0 0] 27)) := ((Kept.refl 0 0 w).alloc (.cells #[.bool false, .slice none 0 0] 27))
  have q0 : (w.alloc (.cells #[.bool false, .slice none 0 0] 27)).cell? ⟨w.heap.size, 0, none⟩ = some (.bool false) := new_cell2 _ _ _ _ _ _ (by simp) rfl
  have qf0 : (w.alloc (.cells #[.bool false, .slice none 0 0] 27)).frozen? ⟨w.heap.size, 0, none⟩ = false := new_loose2 _ _ _ _ _ (by simp)
  have q1 : (w.alloc (.cells #[.bool false, .slice none 0 0] 27)).cell? ⟨w.heap.size, 1, none⟩ = some (.slice none 0 0) := new_cell2 _ _ _ _ _ _ (by simp) rfl
  have qf1 : (w.alloc (.cells #[.bool false, .slice none 0 0] 27)).frozen? ⟨w.heap.size, 1, none⟩ = false := new_loose2 _ _ _ _ _ (by simp)
  have s0 : (w.alloc (.cells #[.bool false, .slice none 0 0] 27)).heap.size = w.heap.size + 1 := by simp
  have K := hide (k0)
  clear k0
  have S0 := hide s0
  clear s0
  replace r := r.kept (unhide K) (by omega)
  obtain ⟨a0, c0, hv⟩ := Row.form' r
  subst hv
  go_enter Tryd.func13, Tryd.ntmps13
  go_wp2_with fail
  generalize (w.alloc (.cells #[.bool false, .slice none 0 0] 27)) = W at *
  refine (l1New_any _ r b).mono ?_
  rintro e w1 ⟨g, rfl, hg, cu, k1⟩
  replace qf0 := k1.loose0 (World.block_lt_of_cell? _ _ q0) qf0
  replace qf1 := k1.loose0 (World.block_lt_of_cell? _ _ q1) qf1
  replace q0 := k1.cell0 q0
  replace q1 := k1.cell0 q1
  replace K := hide ((unhide K).trans k1)
  have z2 := k1.size
  clear k1
  have hg2 : w.heap.size + 1 ≤ g := by have := unhide S0; omega
  clear r hg
  generalize W.heap.size = LO at *
  go_wp2_with fail
  refine (bent3_len g LO _ cu).mono ?_
  rintro e w9 ⟨v5, s5, zs, rfl, r5, hl5, d5⟩
  have lt0 := World.block_lt_of_cell? _ _ q0
  have lt1 := World.block_lt_of_cell? _ _ q1
  dsimp only at lt0 lt1
  replace qf0 := d5.2.looseOut' (a := ⟨w.heap.size, 0, none⟩) (.inl (show w.heap.size < g by omega)) lt0 qf0
  replace qf1 := d5.2.looseOut' (a := ⟨w.heap.size, 1, none⟩) (.inl (show w.heap.size < g by omega)) lt1 qf1
  replace q0 := d5.2.cellOut (.inl (show w.heap.size < g by omega)) q0
  replace q1 := d5.2.cellOut (.inl (show w.heap.size < g by omega)) q1
  replace K := hide ((unhide K).newer' d5.2 (by omega))
  clear d5 cu
  obtain ⟨a5, c5, hv⟩ := Row.form' r5
  subst hv
  have bX : w.heap.size < w9.heap.size := World.block_lt_of_cell? _ _ q0
  have R := hide (((r5.set_other (p := ⟨w.heap.size, 0, none⟩) (.inl (by have := unhide S0; dsimp only; omega)) (.bool s5)).set_other (p := ⟨w.heap.size, 1, none⟩) (.inl (by have := unhide S0; dsimp only; omega)) (.slice a5 zs.length c5)).tight.wider (lo' := w.heap.size) (by have := unhide S0; omega) (Nat.le_refl _))
  have K7 := hide (((unhide K).setNew (p := ⟨w.heap.size, 0, none⟩) (by simp) (.bool s5)).setNew (p := ⟨w.heap.size, 1, none⟩) (by simp) (.slice a5 zs.length c5))
  clear r5 K
  go_wp2_with fail
  exact bodyPost_ret (v := .agg #[.bool s5, .slice a5 zs.length c5]) (by simp [results, Tryd.results13, go_sem, q0, q1]) rfl ⟨_, _, _, rfl, unhide R, unhide K7⟩

set_option maxHeartbeats 8000000 in
theorem law_WholeTexts {v : Value} {zs : List Int} {w : World} (r : Row .u8 false 0 w.heap.size w v zs) (hb0 : ∀ z ∈ zs, (Lit.int .u8 z).wf = true) (T : Tab w) :
    Calls Tryd.prog 4 #[v] w fun e w' => e = .returned (.bool true) ∧ Below w.heap.size w w' := by
  have hb := bytes_of_wf hb0
  clear hb0
  have hB := hide hb
  clear hb
  have HT := hide T
  clear T
  have s0 : w.heap.size = w.heap.size := rfl
  obtain ⟨a0, c0, hv⟩ := r.form'
  subst hv
  have K := hide (Kept.refl 0 0 w)
  have S0 := hide s0
  clear s0
  go_enter Tryd.func4, Tryd.ntmps4
  go_wp2_with fail
  refine (drawWT_any _ r (unhide hB)).mono ?_
  rintro e w1 ⟨v1, s1, xs, rfl, r1, k1⟩
  replace r := r.kept k1 (.inr (.inr (Nat.le_refl 0)))
  replace K := hide ((unhide K).trans k1)
  have z2 := k1.size
  clear k1
  clear r
  obtain ⟨a1, c1, hv⟩ := Row.form' r1
  subst hv
  have kn := (Kept.refl 0 0 w1).alloc (.cells #[.bool s1, .slice a1 xs.length c1] 27)
  have ca0 : (w1.alloc (.cells #[.bool s1, .slice a1 xs.length c1] 27)).cell? ⟨w1.heap.size, 0, none⟩ = some (.bool s1) := new_cell2 _ _ _ _ _ _ (by simp) rfl
  have ca1 : (w1.alloc (.cells #[.bool s1, .slice a1 xs.length c1] 27)).cell? ⟨w1.heap.size, 1, none⟩ = some (.slice a1 xs.length c1) := new_cell2 _ _ _ _ _ _ (by simp) rfl
  have sz3 : w1.heap.size + 1 ≤ (w1.alloc (.cells #[.bool s1, .slice a1 xs.length c1] 27)).heap.size := by simp
  replace r1 := r1.kept kn (.inr (.inr (Nat.le_refl 0)))
  replace K := hide ((unhide K).trans kn)
  have z4 := kn.size
  clear kn
  go_wp2_with fail
  generalize (w1.alloc (.cells #[.bool s1, .slice a1 xs.length c1] 27)) = wn5 at *
  have mk := wholeText_impl s1 wn5 r1
  obtain ⟨TX, hTX⟩ : ∃ y, wtx s1 xs = y := ⟨_, rfl⟩
  rw [hTX] at mk
  have HX := hide hTX
  clear hTX
  refine (mk).mono ?_
  rintro e w6 ⟨vy, rfl, ry, k6⟩
  replace r1 := r1.kept k6 (.inr (.inr (Nat.le_refl 0)))
  replace ca0 := k6.cell0 ca0
  replace ca1 := k6.cell0 ca1
  replace K := hide ((unhide K).trans k6)
  have z7 := k6.size
  clear k6
  clear mk
  obtain ⟨ay, cy, hv⟩ := Row.form' ry
  subst hv
  go_wp2_with fail
  have mo := wok_spec s1 w6 r1
  refine (mo).mono ?_
  rintro e w8 ⟨rfl, k8⟩
  replace r1 := r1.kept k8 (.inr (.inr (Nat.le_refl 0)))
  replace ry := ry.kept k8 (.inr (.inr (Nat.le_refl 0)))
  replace ca0 := k8.cell0 ca0
  replace ca1 := k8.cell0 ca1
  replace K := hide ((unhide K).trans k8)
  have z9 := k8.size
  clear k8
  clear mo
  cases ho1 : wokB s1 xs
  · have ht : TX = [] := by rw [← unhide HX]; unfold wtx; rw [if_neg (by rw [ho1]; decide)]
    subst ht
    clear ho1
    go_wp2_with fail
    have mo := wOf_impl (-7) (by decide) (by decide) w8
    rw [show wsg (-7) = true by decide, show wlm (-7) = [7] by decide] at mo
    refine (mo).mono ?_
    rintro e w10 ⟨ve, rfl, re, k10⟩
    replace r1 := r1.kept k10 (.inr (.inr (Nat.le_refl 0)))
    replace ry := ry.kept k10 (.inr (.inr (Nat.le_refl 0)))
    replace ca0 := k10.cell0 ca0
    replace ca1 := k10.cell0 ca1
    replace K := hide ((unhide K).trans k10)
    have z11 := k10.size
    clear k10
    clear mo
    go_wp2_with fail
    have mo := wholeText_impl true w10 re
    rw [show wtx true [7] = [45, 55] by decide] at mo
    refine (mo).mono ?_
    rintro e w12 ⟨vf, rfl, rf, k12⟩
    replace r1 := r1.kept k12 (.inr (.inr (Nat.le_refl 0)))
    replace ry := ry.kept k12 (.inr (.inr (Nat.le_refl 0)))
    replace re := re.kept k12 (.inr (.inr (Nat.le_refl 0)))
    replace ca0 := k12.cell0 ca0
    replace ca1 := k12.cell0 ca1
    replace K := hide ((unhide K).trans k12)
    have z13 := k12.size
    clear k12
    clear mo
    obtain ⟨af, cf, hv⟩ := Row.form' rf
    subst hv
    try go_wp2_with fail
    go_ret
    exact ⟨rfl, (unhide K).toBelow⟩
  have HO1 := hide ho1
  clear ho1
  go_wp2_with fail
  have mk := wRead_impl w8 ry (by rw [← unhide HX]; exact wtx_bytes _ _) ((unhide HT).kept (unhide K) (.inr (Nat.le_refl 0)))
  by_cases hlen : 400 < TX.length
  · obtain ⟨AB, hAB⟩ : ∃ y, ansWB (wrC TX) (wrX TX) = y := ⟨_, rfl⟩
    obtain ⟨AS, hAS⟩ : ∃ y, ansWS (wrC TX) (wrX TX) = y := ⟨_, rfl⟩
    obtain ⟨AL, hAL⟩ : ∃ y, ansWL (wrC TX) (wrX TX) = y := ⟨_, rfl⟩
    rw [hAB, hAS, hAL] at mk
    clear hAB hAS hAL
    have hlen' : (400 : Int) < (TX.length : Int) := by omega
    refine (mk).mono ?_
    rintro e w10 ⟨v5, rfl, r5, k10⟩
    replace r1 := r1.kept k10 (.inr (.inr (Nat.le_refl 0)))
    replace ry := ry.kept k10 (.inr (.inr (Nat.le_refl 0)))
    replace ca0 := k10.cell0 ca0
    replace ca1 := k10.cell0 ca1
    replace K := hide ((unhide K).trans k10)
    have z11 := k10.size
    clear k10
    clear mk
    obtain ⟨a5, c5, hv⟩ := Row.form' r5
    subst hv
    have kn := (Kept.refl 0 0 w10).alloc (.cells #[.bool AS, .slice a5 AL.length c5] 27)
    have cx0 : (w10.alloc (.cells #[.bool AS, .slice a5 AL.length c5] 27)).cell? ⟨w10.heap.size, 0, none⟩ = some (.bool AS) := new_cell2 _ _ _ _ _ _ (by simp) rfl
    have cx1 : (w10.alloc (.cells #[.bool AS, .slice a5 AL.length c5] 27)).cell? ⟨w10.heap.size, 1, none⟩ = some (.slice a5 AL.length c5) := new_cell2 _ _ _ _ _ _ (by simp) rfl
    have sz12 : w10.heap.size + 1 ≤ (w10.alloc (.cells #[.bool AS, .slice a5 AL.length c5] 27)).heap.size := by simp
    replace r1 := r1.kept kn (.inr (.inr (Nat.le_refl 0)))
    replace ry := ry.kept kn (.inr (.inr (Nat.le_refl 0)))
    replace r5 := r5.kept kn (.inr (.inr (Nat.le_refl 0)))
    replace ca0 := kn.cell0 ca0
    replace ca1 := kn.cell0 ca1
    replace K := hide ((unhide K).trans kn)
    have z13 := kn.size
    clear kn
    go_wp2_with fail
    generalize (w10.alloc (.cells #[.bool AS, .slice a5 AL.length c5] 27)) = wn14 at *
    try go_wp2_with fail
    go_ret
    exact ⟨rfl, (unhide K).toBelow⟩
  have hlen' : ¬ (400 : Int) < (TX.length : Int) := by omega
  have WA := wt_all (unhide HO1) (by rw [unhide HX]; omega)
  rw [unhide HX] at WA
  have WB := wt_back (unhide HO1)
  rw [WA.1, WA.2, WB.1, WB.2.1, WB.2.2] at mk
  clear WA WB
  refine (mk).mono ?_
  rintro e w10 ⟨v5, rfl, r5, k10⟩
  replace r1 := r1.kept k10 (.inr (.inr (Nat.le_refl 0)))
  replace ry := ry.kept k10 (.inr (.inr (Nat.le_refl 0)))
  replace ca0 := k10.cell0 ca0
  replace ca1 := k10.cell0 ca1
  replace K := hide ((unhide K).trans k10)
  have z11 := k10.size
  clear k10
  clear mk
  obtain ⟨a5, c5, hv⟩ := Row.form' r5
  subst hv
  have kn := (Kept.refl 0 0 w10).alloc (.cells #[.bool s1, .slice a5 xs.length c5] 27)
  have cx0 : (w10.alloc (.cells #[.bool s1, .slice a5 xs.length c5] 27)).cell? ⟨w10.heap.size, 0, none⟩ = some (.bool s1) := new_cell2 _ _ _ _ _ _ (by simp) rfl
  have cx1 : (w10.alloc (.cells #[.bool s1, .slice a5 xs.length c5] 27)).cell? ⟨w10.heap.size, 1, none⟩ = some (.slice a5 xs.length c5) := new_cell2 _ _ _ _ _ _ (by simp) rfl
  have sz12 : w10.heap.size + 1 ≤ (w10.alloc (.cells #[.bool s1, .slice a5 xs.length c5] 27)).heap.size := by simp
  replace r1 := r1.kept kn (.inr (.inr (Nat.le_refl 0)))
  replace ry := ry.kept kn (.inr (.inr (Nat.le_refl 0)))
  replace r5 := r5.kept kn (.inr (.inr (Nat.le_refl 0)))
  replace ca0 := kn.cell0 ca0
  replace ca1 := kn.cell0 ca1
  replace K := hide ((unhide K).trans kn)
  have z13 := kn.size
  clear kn
  go_wp2_with fail
  generalize (w10.alloc (.cells #[.bool s1, .slice a5 xs.length c5] 27)) = wn14 at *
  have mo := sameWhole_same s1 wn14 r5 r1
  refine (mo).mono ?_
  rintro e w15 ⟨rfl, k15⟩
  replace r1 := r1.kept k15 (.inr (.inr (Nat.le_refl 0)))
  replace ry := ry.kept k15 (.inr (.inr (Nat.le_refl 0)))
  replace r5 := r5.kept k15 (.inr (.inr (Nat.le_refl 0)))
  replace ca0 := k15.cell0 ca0
  replace ca1 := k15.cell0 ca1
  replace cx0 := k15.cell0 cx0
  replace cx1 := k15.cell0 cx1
  replace K := hide ((unhide K).trans k15)
  have z16 := k15.size
  clear k15
  clear mo
  try go_wp2_with fail
  go_ret
  exact ⟨rfl, (unhide K).toBelow⟩

end Go.Proofs.YthglchilgjcloaaDoor
