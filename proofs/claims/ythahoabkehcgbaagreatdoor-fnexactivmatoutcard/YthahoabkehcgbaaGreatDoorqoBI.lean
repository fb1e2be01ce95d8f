/-
  Contracts that the proofs of this seat share: IShS, INat26, IWh2, IWh3.
-/
import Derived.Test.YthahoabkehcgbaaGreatDoorqoBH
import Derived.Test.YthahoabkehcgbaaGreatDoorqoBG
import Derived.Test.YthahoabkehcgbaaGreatDoorqoBC
import Derived.Deep.QuietTactic
import Derived.BigQuiet
import Derived.BigRegion
import Derived.Deep.DeepCutAuto
namespace Go.Proofs.YthahoabkehcgbaaGreatDoor
open Go.RowKit
set_option linter.unusedVariables false
set_option maxRecDepth 8000
set_option linter.unusedSimpArgs false

set_option maxHeartbeats 8000000 in
theorem shiftUp_S {b g : Nat} {v : Value} {xs : List Int} (w : World) (h : Num b w g v xs) (hx : Lim xs) (hne : xs ≠ []) (nx : xs.length ≤ 50000) (k : Nat) (hk : k ≤ 800000) :
    Calls Tryz.prog 205 #[.pointer (some ⟨g, 0, none⟩), .int .i64 (k : Int)] w fun e w' => (∃ r, e = .returned r) ∧ ∃ u, Num w.heap.size w' g u (limbs ((val xs).toNat * 2 ^ k)) ∧ Mod (fun i => i = g) w w' ∧ SameSide g w w' := by
  obtain ⟨q, s, hs, rfl⟩ : ∃ q s : Nat, s < 16 ∧ k = 16 * q + s := ⟨k / 16, k % 16, by omega, by omega⟩
  obtain ⟨K, hK⟩ : ∃ K : Int, K = ((16 * q + s : Nat) : Int) := ⟨_, rfl⟩
  have e3 : K.tdiv 16 = (q : Int) := by rw [Int.tdiv_eq_ediv_of_nonneg (by omega)]; omega
  have e4 : K.tmod 16 = (s : Int) := by rw [Int.tmod_eq_emod_of_nonneg (by omega)]; omega
  have hq63 : q ≤ 50000 := by omega
  have hKK : 0 ≤ K ∧ K ≤ 800000 := by omega
  rw [← hK]
  obtain ⟨M, hM⟩ : ∃ M, M = xs.length := ⟨_, rfl⟩
  obtain ⟨T, hT⟩ : ∃ T, T = q + M + 1 := ⟨_, rfl⟩
  have hM0 : 0 < M := by rw [hM]; exact List.length_pos_iff.2 hne
  have htot := shl_total xs hx q s
  generalize hA : (val xs).toNat * 2 ^ (16 * q + s) = A at *
  obtain ⟨D, hD⟩ : ∃ D : Int, D = ((2 ^ s : Nat) : Int) := ⟨_, rfl⟩
  rw [← hD] at htot
  have hDp : 0 < D := by rw [hD]; have := Nat.pow_pos (n := s) (show 0 < 2 by decide); omega
  have hDE : D * ((2 ^ (16 - s) : Nat) : Int) = 65536 := by
    rw [hD, ← Int.natCast_mul, ← Nat.pow_add, show s + (16 - s) = 16 by omega]; rfl
  have hDm : D ≤ 65536 := by
    rw [hD]; have := Nat.pow_le_pow_right (n := 2) (by decide) (show s ≤ 16 by omega); omega
  have HTOT := hide htot
  have HDE := hide hDE
  have ep : (2 : Int) ^ s = D := by rw [hD]; simp
  obtain ⟨a1, c1, hv1⟩ := h.form
  rw [← hM] at hv1
  subst hv1
  have hnx : M ≤ 50000 := by omega
  have HM := hide hM
  have HT := hide hT
  have hTT : (q : Int) + (M : Int) + 1 = (T : Int) := by omega
  have hnT : T ≤ 100001 := by omega
  have HA1 := hide ((row_cell h.row).2.2.2)
  have N1 := hide h
  have hz := isZero_impl w h
  rw [decide_eq_false (by omega)] at hz
  have HZ := hide hz
  obtain ⟨i0, hi0, hz0, hz1, hz2⟩ := info_parts Tryz.info3'
  obtain ⟨w2, hrun, hown2, hgrow2⟩ := run_make_full (P := Tryz.prog) w w.heap.size 39 3 i0 (.int .i64 0) 1 Tryz.underlying39 hi0 hz0 hz1 .i64 .i64 T (by rw [hz2]; omega) (by unfold maxLen; omega) (Nat.le_refl _)
  have hf0 := made_fresh (Kept.refl 0 0 w) hown2 hgrow2
  have HF := hide hf0
  have hce1 := hf0.k.cell0 h.cell
  have hce1w := h.cell
  obtain ⟨G, hG0⟩ : ∃ G, G = w.heap.size := ⟨_, rfl⟩
  rw [← hG0] at hrun HF
  have hs0 : ¬ ((s : Int) < 0) := by omega
  have hs64 : (s : Int) < 64 := by omega
  have HEP := hide ep
  clear hown2 hgrow2 hf0 hG0 hi0 hz0 hz1 hz2 htot hDE hD h hz hK hA hT hM nx hne hk ep
  go_enter Tryz.func205, Tryz.ntmps205
  go_wp2_with (go_at_call 185; refine (unhide HZ).mono ?_; rintro e w' ⟨rfl, rfl⟩)
  clear hrun hce1 hce1w
  go_loopw [30] (fun ii wr => ∃ (zs : List Int) (i : Nat), ii = .int .i64 (i : Int) ∧ i ≤ M ∧ zs.length = T ∧ Lim zs ∧ Hid (zs.getD (q + i) 0 ≤ D - 1) ∧ Hid (∀ p, q + i < p → zs.getD p 0 = 0) ∧ Hid (val zs = 65536 ^ q * (val (xs.take i) * D)) ∧ Fresh w' wr (.slice (some ⟨G, 0, none⟩) T T) zs) (fun ii _ => M - (intOf ii).toNat)
  case atStart => exact ⟨List.replicate T 0, 0, rfl, Nat.zero_le _, by simp, Lim.zeros T, by show _ ≤ _; have := Bnd.zeros T (q + 0); omega, fun p _ => by have := Bnd.zeros T p; omega, by show _ = _; rw [val_zeros]; simp [val], unhide HF⟩
  case round =>
    clear HF
    obtain ⟨zs, i, rfl, hi, hs', hlz, hc, hp, hV, hf⟩ := hrel
    by_cases hA : i < M
    · have hi1 : (i : Int) < (M : Int) := by omega
      have hx0 := hx.at i
      obtain ⟨gA, oA, rfl, x1⟩ := unhide HA1 i (by have := unhide HM; omega)
      replace x1 := hf.k.cell0 x1
      have hik : q + i + 1 < T := by have := unhide HT; omega
      obtain ⟨y1, y2⟩ := hf.at hs'.symm (q + i) (by omega)
      obtain ⟨y3, y4⟩ := hf.at hs'.symm (q + i + 1) hik
      have hz1 := unhide hp (q + i + 1) (by omega)
      rw [hz1] at y3
      have hsl := shl_limb hDp (unhide HDE) hx0
      have hput := shl_put zs xs q i D _ (by rw [← unhide HM]; exact hA) (by omega) rfl hz1 (unhide hV)
      have hzc := hlz.at (q + i)
      have hcc := unhide hc
      generalize hva : xs.getD i 0 = va at *
      generalize hvz : zs.getD (q + i) 0 = vz at *
      have hl1 := (hlz.set (q + i) (x := vz + va * D % 65536) (by omega) (by omega)).set (q + i + 1) (x := va * D / 65536) (by omega) (by omega)
      have HL1 := hide hl1
      have HPUT := hide hput
      have hX : 0 ≤ va * D ∧ va * D ≤ 4294967296 := by omega
      have HC2 : Hid (((zs.set (q + i) (vz + va * D % 65536)).set (q + i + 1) (va * D / 65536)).getD (q + (i + 1)) 0 ≤ D - 1) := by
        show _ ≤ _
        rw [show q + (i + 1) = q + i + 1 from rfl, getD_set_eq _ _ _ (by rw [List.length_set]; omega)]
        omega
      have HP2 : Hid (∀ p, q + (i + 1) < p → ((zs.set (q + i) (vz + va * D % 65536)).set (q + i + 1) (va * D / 65536)).getD p 0 = 0) := fun p h => by
        rw [getD_set_ne _ _ _ _ (by omega), getD_set_ne _ _ _ _ (by omega)]; exact unhide hp p (by omega)
      have hls : ((zs.set (q + i) (vz + va * D % 65536)).set (q + i + 1) (va * D / 65536)).length = T := by simpa using hs'
      have HLS := hide hls
      have hpt := (hf.put hs'.symm (q + i) (vz + va * D % 65536))
      have y3' := cell_off _ G (q + i + 1) (q + i) (.int .i64 (vz + va * D % 65536)) _ y3 (by omega)
      have hpt2 := hpt.put (by rw [List.length_set]; exact hs'.symm) (q + i + 1) (va * D / 65536)
      have HPT := hide hpt2
      have hij : (q : Int) + (i : Int) < (T : Int) := by omega
      have hij0 : 0 ≤ (q : Int) + (i : Int) := by omega
      have hij1 : (q : Int) + (i : Int) + 1 < (T : Int) := by omega
      have hij2 : 0 ≤ (q : Int) + (i : Int) + 1 := by omega
      have et : (va * D).tmod 65536 = va * D % 65536 := by rw [Int.tmod_eq_emod_of_nonneg (by omega)]
      have ed : (va * D).tdiv 65536 = va * D / 65536 := by rw [Int.tdiv_eq_ediv_of_nonneg (by omega)]
      have hep := unhide HEP
      clear hV hput hc hp hva hvz hf hs' hls hlz hpt hpt2 hl1 hz1
      go_wp2
      go_roundw
      case rel => exact ⟨_, i + 1, by go_num, by omega, unhide HLS, unhide HL1, HC2, HP2, HPUT, unhide HPT⟩
      case measure => simp [intOf]; omega
    · have hiM : i = M := by omega
      have hi1 : ¬ (i : Int) < (M : Int) := by omega
      have hv := unhide hV
      rw [List.take_of_length_le (by rw [← unhide HM]; omega), unhide HTOT] at hv
      have hlt1 := (unhide N1).lt
      have hG := (hf.own.lt G rfl).1
      have hc1' := hf.k.cell0 (unhide N1).cell
      have hf1' := hf.k.loose0 (a := ⟨g, 0, none⟩) hlt1 (unhide N1).loose
      have hown := hf.own
      rw [hs'] at hown
      have hnum : Num w'.heap.size (wr.setCell ⟨g, 0, none⟩ (.slice (some ⟨G, 0, none⟩) T T)) g (.slice (some ⟨G, 0, none⟩) T T) zs :=
        ⟨cell_on _ _ _ _ _ hc1', by rw [frozen_set]; exact hf1', by rw [hs']; exact own_apart hown (p := ⟨g, 0, none⟩) (by simp [Value.ownBlock]; omega) _, by simp [Value.ownBlock]; omega⟩
      have hmod : Mod (fun i => i = g) w' (wr.setCell ⟨g, 0, none⟩ (.slice (some ⟨G, 0, none⟩) T T)) := Mod.set (S := fun i => i = g) hf.k.toMod (p := ⟨g, 0, none⟩) (.inl rfl) _
      have hsd : SameSide g w' (wr.setCell ⟨g, 0, none⟩ (.slice (some ⟨G, 0, none⟩) T T)) := (hf.k.side hlt1).set0 _
      have SD := hide hsd
      clear hsd
      have NU := hide hnum
      have MO := hide hmod
      have HVV := hide hv
      clear hnum hmod hv hown hf hc hp hV hiM
      go_wp2_with fail
      refine (trim_side _ (unhide NU) hlz).mono ?_
      rintro e w6 ⟨⟨r6, rfl⟩, u6, n6, ho6, m6, sd6⟩
      have N6 := hide n6
      rw [unhide HVV, Int.toNat_natCast] at N6
      have M6 := hide ((unhide MO).trans m6)
      have S6 := hide ((unhide SD).trans sd6)
      clear n6 ho6 m6 sd6
      go_wp2
      exact bodyPost_end (v := .tuple #[]) (by simp [results, Tryz.results205, go_sem]) rfl ⟨⟨_, rfl⟩, _, unhide N6, unhide M6, unhide S6⟩

set_option maxHeartbeats 1000000 in
theorem isZero_work {b g : Nat} {v : Value} {zs : List Int} (w : World) (h : Work b w g v zs) :
    Calls Tryz.prog 185 #[.pointer (some ⟨g, 0, none⟩)] w fun e w' => e = .returned (.bool (decide (zs.length = 0))) ∧ w' = w := by
  have hc := h.cell
  obtain ⟨a1, c1, rfl⟩ := h.form
  clear h
  go_enter Tryz.func185, Tryz.ntmps185
  go_wp2
  go_ret
  refine ⟨?_, rfl⟩
  cases zs with
  | nil => simp
  | cons z t => simp; omega

set_option maxHeartbeats 1000000 in
theorem isBelow_work {b g : Nat} {v : Value} {zs : List Int} {s : Bool} (w : World) (h : Work b w g v zs) (d : Sd w g s) :
    Calls Tryz.prog 189 #[.pointer (some ⟨g, 0, none⟩)] w fun e w' => e = .returned (.bool (s && decide (0 < zs.length))) ∧ w' = w := by
  have hc := h.cell
  have hd := d.1
  have hz := isZero_work w h
  obtain ⟨a1, c1, rfl⟩ := h.form
  have HZ := hide hz
  clear hz h d
  cases s
  · go_enter Tryz.func189, Tryz.ntmps189
    go_wp2
    go_ret
    exact ⟨rfl, rfl⟩
  · go_enter Tryz.func189, Tryz.ntmps189
    go_wp2_with (go_at_call 185; refine (unhide HZ).mono ?_; rintro e w' ⟨rfl, rfl⟩)
    go_ret
    refine ⟨?_, rfl⟩
    cases zs <;> simp

set_option maxHeartbeats 2000000 in
theorem toldSigned_work {b g : Nat} {v : Value} {zs : List Int} {s : Bool} (w : World) (h : Work b w g v zs) (d : Sd w g s) :
    Calls Tryz.prog 138 #[.pointer (some ⟨g, 0, none⟩)] w fun e w' => ∃ v', e = .returned (.tuple #[.agg #[.bool (decide (zs.length ≤ 100) && (s && decide (0 < zs.length))), v'], .bool (decide (zs.length ≤ 100))]) ∧ Row .i64 true w.heap.size w'.heap.size w' v' (tell zs) ∧ Kept 0 0 w w' := by
  have hb : (if zs.length ≤ 100 then tell zs = zs else tell zs = []) := by unfold tell; split <;> rfl
  obtain ⟨zz, hzz⟩ : ∃ zz, tell zs = zz := ⟨_, rfl⟩
  rw [hzz] at hb
  rw [hzz]
  have HZ := hide hzz
  clear hzz
  have k0 : Kept 0 0 w (w.alloc (.cells #[.bool false, .slice none 0 0] 50)) := ((Kept.refl 0 0 w).alloc (.cells #[.bool false, .slice none 0 0] 50))
  have q0 : (w.alloc (.cells #[.bool false, .slice none 0 0] 50)).cell? ⟨w.heap.size, 0, none⟩ = some (.bool false) := new_cell2 _ _ _ _ _ _ (by simp) rfl
  have qf0 : (w.alloc (.cells #[.bool false, .slice none 0 0] 50)).frozen? ⟨w.heap.size, 0, none⟩ = false := new_loose2 _ _ _ _ _ (by simp)
  have q1 : (w.alloc (.cells #[.bool false, .slice none 0 0] 50)).cell? ⟨w.heap.size, 1, none⟩ = some (.slice none 0 0) := new_cell2 _ _ _ _ _ _ (by simp) rfl
  have qf1 : (w.alloc (.cells #[.bool false, .slice none 0 0] 50)).frozen? ⟨w.heap.size, 1, none⟩ = false := new_loose2 _ _ _ _ _ (by simp)
  have s0 : (w.alloc (.cells #[.bool false, .slice none 0 0] 50)).heap.size = w.heap.size + 1 := by simp
  have K := hide (k0)
  clear k0
  have S0 := hide s0
  clear s0
  replace h := h.kept (unhide K)
  replace d := d.kept (unhide K)
  go_enter Tryz.func138, Tryz.ntmps138
  go_wp2_with fail
  generalize (w.alloc (.cells #[.bool false, .slice none 0 0] 50)) = W at *
  refine (told_work _ h).mono ?_
  rintro e w1 ⟨v1, rfl, r1, k1⟩
  replace h := h.kept k1
  replace d := d.kept k1
  replace qf0 := k1.loose0 (World.block_lt_of_cell? _ _ q0) qf0
  replace qf1 := k1.loose0 (World.block_lt_of_cell? _ _ q1) qf1
  replace q0 := k1.cell0 q0
  replace q1 := k1.cell0 q1
  replace K := hide ((unhide K).trans k1)
  have z2 := k1.size
  clear k1
  rw [unhide HZ] at r1
  obtain ⟨a1, c1, hv⟩ := Row.form' r1
  subst hv
  have k2 := (Kept.refl 0 0 w1).alloc (.cells #[.slice a1 zz.length c1] 48)
  have y0 : (w1.alloc (.cells #[.slice a1 zz.length c1] 48)).cell? ⟨w1.heap.size, 0, none⟩ = some (.slice a1 zz.length c1) := new_cell2 _ _ _ _ _ _ rfl rfl
  replace r1 := r1.kept k2 (by omega)
  replace h := h.kept k2
  replace d := d.kept k2
  replace qf0 := k2.loose0 (World.block_lt_of_cell? _ _ q0) qf0
  replace qf1 := k2.loose0 (World.block_lt_of_cell? _ _ q1) qf1
  replace q0 := k2.cell0 q0
  replace q1 := k2.cell0 q1
  replace K := hide ((unhide K).trans k2)
  have z3 := k2.size
  clear k2
  by_cases hl : zs.length ≤ 100
  · rw [if_pos hl] at hb
    subst hb
    rw [decide_eq_true hl]
    go_wp2_with fail
    generalize w1.alloc (.cells #[.slice a1 zz.length c1] 48) = W2 at *
    obtain ⟨sg, hsg⟩ : ∃ sg, (s && decide (0 < zz.length)) = sg := ⟨_, rfl⟩
    have hbl := isBelow_work W2.drew (h.kept (Kept.refl 0 0 W2).drew) (d.kept (Kept.refl 0 0 W2).drew)
    rw [hsg] at hbl
    have HSG := hide hsg
    have hbk : Calls Tryz.prog 189 #[.pointer (some ⟨g, 0, none⟩)] W2.drew fun e w' => e = .returned (.bool sg) ∧ Kept 0 0 W2.drew w' := hbl.mono (fun e w' h => ⟨h.1, by rw [h.2]; exact Kept.refl 0 0 _⟩)
    clear hsg hbl
    have kd := (Kept.refl 0 0 W2).drew
    replace r1 := r1.kept kd (by omega)
    replace h := h.kept kd
    replace d := d.kept kd
    replace qf0 := kd.loose0 (World.block_lt_of_cell? _ _ q0) qf0
    replace qf1 := kd.loose0 (World.block_lt_of_cell? _ _ q1) qf1
    replace q0 := kd.cell0 q0
    replace q1 := kd.cell0 q1
    replace y0 := kd.cell0 y0
    replace K := hide ((unhide K).trans kd)
    have z4 := kd.size
    clear kd
    refine wp_region_held_drew (S := (fun w' => w'.cell? ⟨w1.heap.size, 0, none⟩ = some (.slice a1 zz.length c1))) (by kernel_rfl) ?_ (fun hHeld => ?_)
    · exact y0
    refine wpAnyH_take (i := 0) (oi := _) (v := .pointer (some ⟨g, 0, none⟩)) rfl (by kernel_rfl) (by kernel_rfl) (by kernel_rfl) (fun _ _ _ h => h) (Or.inl ⟨by rfl, ?_⟩) hHeld ?_
    · intro wq hSw
      try dsimp only at hSw
      go_simp
    try simp only [Act.put, List.getElem_toArray, List.getElem_cons_succ, List.getElem_cons_zero, List.setIfInBounds_toArray, List.set_cons_zero, List.set_cons_succ]
    refine wpAnyH_take (i := 2) (oi := _) (v := .agg #[.slice a1 zz.length c1]) rfl (by kernel_rfl) (by kernel_rfl) (by kernel_rfl) (fun _ _ _ h => h) (Or.inl ⟨by rfl, ?_⟩) hHeld ?_
    · intro wq hSw
      try dsimp only at hSw
      go_simp
    try simp only [Act.put, List.getElem_toArray, List.getElem_cons_succ, List.getElem_cons_zero, List.setIfInBounds_toArray, List.set_cons_zero, List.set_cons_succ]
    refine wpAnyH_ready (rs := [1]) (by kernel_rfl) (by simp) ?_
    refine AllReadyH.cons rfl (fun KK hK => ?_) AllReadyH.nil
    simp only [List.getElem_toArray, List.getElem_cons_succ, List.getElem_cons_zero]
    rw [if_pos (by rfl)]
    refine wps1 189 (.tmp 16) _ rfl in_isBelow (.pointer (some ⟨g, 0, none⟩)) rfl hbk ?_
    rintro e w5 ⟨rfl, k5⟩
    refine ⟨_, rfl, ?_⟩
    replace r1 := r1.kept k5 (by omega)
    replace h := h.kept k5
    replace d := d.kept k5
    replace qf0 := k5.loose0 (World.block_lt_of_cell? _ _ q0) qf0
    replace qf1 := k5.loose0 (World.block_lt_of_cell? _ _ q1) qf1
    replace q0 := k5.cell0 q0
    replace q1 := k5.cell0 q1
    replace y0 := k5.cell0 y0
    replace K := hide ((unhide K).trans k5)
    have z6 := k5.size
    clear k5
    clear hHeld
    refine hK.out _ _ ?_ (fun hHeld => ?_)
    · exact y0
    clear hK KK
    try simp only [Act.put, List.getElem_toArray, List.getElem_cons_succ, List.getElem_cons_zero, List.setIfInBounds_toArray, List.set_cons_zero, List.set_cons_succ]
    refine wpAnyH_take (i := 3) (oi := _) (v := .agg #[.bool sg, .slice a1 zz.length c1]) rfl (by kernel_rfl) (by kernel_rfl) (by kernel_rfl) (fun _ _ _ h => h) (Or.inl ⟨by rfl, ?_⟩) hHeld ?_
    · intro wq hSw
      try dsimp only at hSw
      go_simp
    try simp only [Act.put, List.getElem_toArray, List.getElem_cons_succ, List.getElem_cons_zero, List.setIfInBounds_toArray, List.set_cons_zero, List.set_cons_succ]
    refine wpAnyH_ready (rs := [4]) (by kernel_rfl) (by simp) ?_
    refine AllReadyH.cons rfl (fun KK hK => ?_) AllReadyH.nil
    simp only [List.getElem_toArray, List.getElem_cons_succ, List.getElem_cons_zero]
    rw [if_pos (by rfl)]
    go_simp
    clear hHeld
    refine hK.out _ _ ?_ (fun hHeld => ?_)
    · exact (cell_aside _ (by have := unhide S0; dsimp only; omega) (cell_aside _ (by have := unhide S0; dsimp only; omega) y0))
    clear hK KK
    try simp only [Act.put, List.getElem_toArray, List.getElem_cons_succ, List.getElem_cons_zero, List.setIfInBounds_toArray, List.set_cons_zero, List.set_cons_succ]
    refine wpAnyH_take (i := 5) (oi := _) (v := .bool true) rfl (by kernel_rfl) (by kernel_rfl) (by kernel_rfl) (fun _ _ _ h => h) (Or.inl ⟨by rfl, ?_⟩) hHeld ?_
    · intro wq hSw
      try dsimp only at hSw
      go_simp
    try simp only [Act.put, List.getElem_toArray, List.getElem_cons_succ, List.getElem_cons_zero, List.setIfInBounds_toArray, List.set_cons_zero, List.set_cons_succ]
    refine wpAnyH_done (by kernel_rfl) ?_ _
    clear hHeld
    clear hbk
    have hz0 : w.heap.size < W.heap.size := by have := unhide S0; omega
    have bX : w.heap.size < w5.heap.size := World.block_lt_of_cell? _ _ q0
    have R := hide (((r1.set_other (p := ⟨w.heap.size, 0, none⟩) (.inl (by have := unhide S0; dsimp only; omega)) (.bool sg)).set_other (p := ⟨w.heap.size, 1, none⟩) (.inl (by have := unhide S0; dsimp only; omega)) (.slice a1 zz.length c1)).tight.wider (lo' := w.heap.size) (by have := unhide S0; omega) (Nat.le_refl _))
    have K7 := hide (((unhide K).setNew (p := ⟨w.heap.size, 0, none⟩) (by simp) (.bool sg)).setNew (p := ⟨w.heap.size, 1, none⟩) (by simp) (.slice a1 zz.length c1))
    clear r1 h d K
    go_wp2_with fail
    exact bodyPost_ret (v := .tuple #[.agg #[.bool sg, .slice a1 zz.length c1], .bool true]) (by simp [results, Tryz.results138, go_sem, q0, q1]) rfl ⟨_, by simp only [decide_eq_true hl, Bool.true_and, unhide HSG], unhide R, unhide K7⟩
  · rw [if_neg hl] at hb
    subst hb
    rw [decide_eq_false hl]
    have K' := hide (((unhide K).setNew (p := ⟨w.heap.size, 0, none⟩) (by simp) (.bool false)).setNew (p := ⟨w.heap.size, 1, none⟩) (by simp) (.slice none 0 0))
    simp only [List.length_nil] at K' q0 q1 qf0 qf1
    clear r1 h d K y0
    go_wp2_with fail
    exact bodyPost_ret (v := .tuple #[.agg #[.bool false, .slice none 0 0], .bool false]) (by simp [results, Tryz.results138, go_sem, q0, q1]) rfl ⟨_, by rw [decide_eq_false hl]; rfl, Row.nil _ _ _ _ _, unhide K'⟩

end Go.Proofs.YthahoabkehcgbaaGreatDoor

namespace Go.Proofs.YthahoabkehcgbaaGreatDoor
open Go.RowKit
set_option linter.unusedVariables false
set_option maxRecDepth 8000

set_option maxHeartbeats 1000000 in
theorem copied_impl {b g : Nat} {v : Value} {zs : List Int} (w : World) (h : Num b w g v zs) (hlen : zs.length ≤ 1000000) :
    Calls Tryz.prog 191 #[.pointer (some ⟨g, 0, none⟩)] w fun e w' => ∃ v', e = .returned (.agg #[v']) ∧ w'.ownsRow w.heap.size 3 1 v' zs.length (zs.map (Value.int .i64)) ∧ Kept 0 0 w w' := by
  have s1 := h.row.kept ((Kept.refl 0 0 w).alloc (.cells #[.slice none 0 0] 145)) (by omega)
  obtain ⟨a1, c1, rfl⟩ := h.form
  have hce := old_cell (.cells #[.slice none 0 0] 145) h.cell
  clear h
  go_enter Tryz.func191, Tryz.ntmps191
  go_wp2_with fail
  generalize hW : w.alloc (.cells #[.slice none 0 0] 145) = W at *
  have c2' : W.cell? ⟨w.heap.size, 0, none⟩ = some (.slice none 0 0) := by rw [← hW]; exact new_cell_at _ _ _ _ rfl
  have f2' : W.frozen? ⟨w.heap.size, 0, none⟩ = false := by rw [← hW]; exact new_loose _ _ _ _ rfl
  have hs : W.heap.size = w.heap.size + 1 := by rw [← hW]; simp
  have hk : Kept 0 0 w W := by rw [← hW]; exact (Kept.refl 0 0 w).alloc _
  clear hW
  refine (clone_impl _ s1 hlen).mono ?_
  rintro e w6 ⟨v6, rfl, o6, k6⟩
  have c4 := k6.cell0 c2'
  have f4 := k6.loose0 (by simp; omega) f2'
  have O : Hid ((w6.setCell ⟨w.heap.size, 0, none⟩ v6).ownsRow w.heap.size 3 1 v6 zs.length (zs.map (Value.int .i64))) := own_less (ownsRow_setCell_below o6 (a := ⟨w.heap.size, 0, none⟩) (by simp; omega) v6) (by omega)
  have K : Hid (Kept 0 0 w (w6.setCell ⟨w.heap.size, 0, none⟩ v6)) := (hk.trans k6).setNew (p := ⟨w.heap.size, 0, none⟩) (by simp) _
  obtain ⟨a6, c6, rfl⟩ := own_slice o6
  clear s1 c2' f2' hs hk k6 o6 hce
  go_wp2
  exact bodyPost_ret (v := .agg #[.slice a6 zs.length c6]) (by simp [results, Tryz.results191, go_sem, c4]) rfl ⟨_, rfl, unhide O, unhide K⟩

end Go.Proofs.YthahoabkehcgbaaGreatDoor

namespace Go.Proofs.YthahoabkehcgbaaGreatDoor
open Go.RowKit
set_option linter.unusedVariables false
set_option maxRecDepth 8000
set_option linter.unusedSimpArgs false

theorem front_set (w : World) (g : Nat) (u : Value) : (w.setCell ⟨g, 1, none⟩ u).cell? ⟨g, 0, none⟩ = w.cell? ⟨g, 0, none⟩ := by
  unfold World.cell? World.setCell
  simp only [Array.getElem?_modify]
  cases hb : w.heap[g]? with
  | none => simp
  | some b => cases b <;> simp
theorem Num.side {b g : Nat} {w : World} {v : Value} {zs : List Int} (h : Num b w g v zs) (u : Value) : Num b (w.setCell ⟨g, 1, none⟩ u) g v zs :=
  ⟨(front_set w g u).trans h.cell, by rw [frozen_set]; exact h.loose, own_apart h.own (p := ⟨g, 1, none⟩) h.apart u, h.apart⟩
theorem Sd.set {w : World} {g : Nat} {s : Bool} (h : Sd w g s) (t : Bool) : Sd (w.setCell ⟨g, 1, none⟩ (.bool t)) g t :=
  ⟨by have := cell_set w g 1 1 (.bool t) (.bool s) h.1; simpa using this, by rw [frozen_set]; exact h.2⟩

theorem in_compare : ∀ (w : World) (args : Array Value), (callFunc 218 args).run Tryz.prog w = .ok (.enter 218 args) w := enters Tryz.func218 (by decide) (fun h => by cases h)

theorem in_copied : ∀ (w : World) (args : Array Value), (callFunc 191 args).run Tryz.prog w = .ok (.enter 191 args) w := enters Tryz.func191 (by decide) (fun h => by cases h)

/-- Two numbers with signs, apart, newer than w0. -/
structure Sig2 (w0 w : World) (g1 g2 : Nat) (s1 : Bool) (xs : List Int) (s2 : Bool) (ys : List Int) : Prop where
  two : ∃ u1 u2, Two w0 w g1 g2 u1 u2 xs ys
  d1 : Sd w g1 s1
  d2 : Sd w g2 s2

set_option maxHeartbeats 4000000 in
theorem compareSigned_wn {w0 w : World} {g1 g2 : Nat} {s1 s2 : Bool} {xs ys : List Int} (S : Sig2 w0 w g1 g2 s1 xs s2 ys) (o1 : WN s1 xs) (o2 : WN s2 ys) :
    Calls Tryz.prog 196 #[.pointer (some ⟨g1, 0, none⟩), .pointer (some ⟨g2, 0, none⟩)] w fun e w' => e = .returned (.int .i64 (cmpI (wval s1 xs) (wval s2 ys))) ∧ Kept 0 0 w w' := by
  obtain ⟨x1, x2, hx⟩ := o1.int
  obtain ⟨y1, y2, hy⟩ := o2.int
  have nx := val_nonneg hx.1
  have ny := val_nonneg hy.1
  obtain ⟨u1, u2, t⟩ := S.two
  have b1 := isBelow_impl w t.n1 S.d1
  have b2 := isBelow_impl w t.n2 S.d2
  have e1 : (s1 && decide (0 < xs.length)) = s1 := by
    cases s1
    · rfl
    · exact decide_eq_true (o1.2 rfl)
  have e2 : (s2 && decide (0 < ys.length)) = s2 := by
    cases s2
    · rfl
    · exact decide_eq_true (o2.2 rfl)
  rw [e1] at b1
  rw [e2] at b2
  have T := hide t
  have B1 := hide b1
  have B2 := hide b2
  clear S t b1 b2 x2 y2 e1 e2 o1 o2
  cases s1 <;> cases s2
  · have e : cmpI (wval false xs) (wval false ys) = cmpI (val xs) (val ys) := by simp [wval]
    rw [e]
    clear x1 y1 e
    go_enter Tryz.func196, Tryz.ntmps196
    go_wp2_with (first | (go_at_call_of 189 (Value.pointer (some ⟨g1, 0, none⟩)); refine (unhide B1).mono ?_; rintro e w' ⟨rfl, rfl⟩) | (go_at_call_of 189 (Value.pointer (some ⟨g2, 0, none⟩)); refine (unhide B2).mono ?_; rintro e w' ⟨rfl, rfl⟩))
    refine wp_region_held_drew (S := (fun _ => True)) (by kernel_rfl) ?_ (fun hHeld => ?_)
    · trivial
    refine wpAnyH_take (i := 0) (oi := _) (v := .pointer (some ⟨g1, 0, none⟩)) rfl (by kernel_rfl) (by kernel_rfl) (by kernel_rfl) (fun _ _ _ h => h) (Or.inl ⟨by rfl, ?_⟩) hHeld ?_
    · intro wq hSw
      try dsimp only at hSw
      go_simp
    try simp only [Act.put, List.getElem_toArray, List.getElem_cons_succ, List.getElem_cons_zero, List.setIfInBounds_toArray, List.set_cons_zero, List.set_cons_succ]
    refine wpAnyH_take (i := 1) (oi := _) (v := .pointer (some ⟨g1, 0, none⟩)) rfl (by kernel_rfl) (by kernel_rfl) (by kernel_rfl) (fun _ _ _ h => h) (Or.inl ⟨by rfl, ?_⟩) hHeld ?_
    · intro wq hSw
      try dsimp only at hSw
      go_simp
    try simp only [Act.put, List.getElem_toArray, List.getElem_cons_succ, List.getElem_cons_zero, List.setIfInBounds_toArray, List.set_cons_zero, List.set_cons_succ]
    refine wpAnyH_take (i := 2) (oi := _) (v := .pointer (some ⟨g1, 0, none⟩)) rfl (by kernel_rfl) (by kernel_rfl) (by kernel_rfl) (fun _ _ _ h => h) (Or.inl ⟨by rfl, ?_⟩) hHeld ?_
    · intro wq hSw
      try dsimp only at hSw
      go_simp
    try simp only [Act.put, List.getElem_toArray, List.getElem_cons_succ, List.getElem_cons_zero, List.setIfInBounds_toArray, List.set_cons_zero, List.set_cons_succ]
    refine wpAnyH_take (i := 3) (oi := _) (v := .pointer (some ⟨g2, 0, none⟩)) rfl (by kernel_rfl) (by kernel_rfl) (by kernel_rfl) (fun _ _ _ h => h) (Or.inl ⟨by rfl, ?_⟩) hHeld ?_
    · intro wq hSw
      try dsimp only at hSw
      go_simp
    try simp only [Act.put, List.getElem_toArray, List.getElem_cons_succ, List.getElem_cons_zero, List.setIfInBounds_toArray, List.set_cons_zero, List.set_cons_succ]
    refine wpAnyH_take (i := 4) (oi := _) (v := .pointer (some ⟨g2, 0, none⟩)) rfl (by kernel_rfl) (by kernel_rfl) (by kernel_rfl) (fun _ _ _ h => h) (Or.inl ⟨by rfl, ?_⟩) hHeld ?_
    · intro wq hSw
      try dsimp only at hSw
      go_simp
    try simp only [Act.put, List.getElem_toArray, List.getElem_cons_succ, List.getElem_cons_zero, List.setIfInBounds_toArray, List.set_cons_zero, List.set_cons_succ]
    refine wpAnyH_take (i := 5) (oi := _) (v := .pointer (some ⟨g2, 0, none⟩)) rfl (by kernel_rfl) (by kernel_rfl) (by kernel_rfl) (fun _ _ _ h => h) (Or.inl ⟨by rfl, ?_⟩) hHeld ?_
    · intro wq hSw
      try dsimp only at hSw
      go_simp
    try simp only [Act.put, List.getElem_toArray, List.getElem_cons_succ, List.getElem_cons_zero, List.setIfInBounds_toArray, List.set_cons_zero, List.set_cons_succ]
    refine wpAnyH_ready (rs := [6]) (by kernel_rfl) (by simp) ?_
    refine AllReadyH.cons rfl (fun KK hK => ?_) AllReadyH.nil
    simp only [List.getElem_toArray, List.getElem_cons_succ, List.getElem_cons_zero]
    rw [if_pos (by rfl)]
    refine wps2 218 (.tmp 27) (.tmp 30) _ rfl in_compare (.pointer (some ⟨g1, 0, none⟩)) (.pointer (some ⟨g2, 0, none⟩)) rfl rfl (compare_impl _ ((unhide T).kept (Kept.refl 0 0 _).drew).n1 ((unhide T).kept (Kept.refl 0 0 _).drew).n2 hx hy) ?_
    rintro e w5 ⟨rfl, k5⟩
    refine ⟨_, rfl, ?_⟩
    have K5 := hide ((Kept.refl 0 0 _).drew.trans k5)
    clear k5
    clear hHeld
    refine hK.out _ _ ?_ (fun hHeld => ?_)
    · trivial
    clear hK KK
    try simp only [Act.put, List.getElem_toArray, List.getElem_cons_succ, List.getElem_cons_zero, List.setIfInBounds_toArray, List.set_cons_zero, List.set_cons_succ]
    refine wpAnyH_take (i := 7) (oi := _) (v := .int .i64 (cmpI (val xs) (val ys))) rfl (by kernel_rfl) (by kernel_rfl) (by kernel_rfl) (fun _ _ _ h => h) (Or.inl ⟨by rfl, ?_⟩) hHeld ?_
    · intro wq hSw
      try dsimp only at hSw
      go_simp
    try simp only [Act.put, List.getElem_toArray, List.getElem_cons_succ, List.getElem_cons_zero, List.setIfInBounds_toArray, List.set_cons_zero, List.set_cons_succ]
    refine wpAnyH_done (by kernel_rfl) ?_ _
    clear hHeld
    go_wp2
    go_ret
    exact ⟨rfl, unhide K5⟩
  · have e : cmpI (wval false xs) (wval true ys) = 1 := by simp [wval] at y1 ⊢; unfold cmpI; rw [if_neg (by omega), if_pos (by omega)]
    rw [e]
    clear x1 y1 e
    go_enter Tryz.func196, Tryz.ntmps196
    go_wp2_with (first | (go_at_call_of 189 (Value.pointer (some ⟨g1, 0, none⟩)); refine (unhide B1).mono ?_; rintro e w' ⟨rfl, rfl⟩) | (go_at_call_of 189 (Value.pointer (some ⟨g2, 0, none⟩)); refine (unhide B2).mono ?_; rintro e w' ⟨rfl, rfl⟩))
    go_ret
    exact ⟨rfl, Kept.refl 0 0 _⟩
  · have e : cmpI (wval true xs) (wval false ys) = -1 := by simp [wval] at x1 ⊢; unfold cmpI; rw [if_pos (by omega)]
    rw [e]
    clear x1 y1 e
    go_enter Tryz.func196, Tryz.ntmps196
    go_wp2_with (first | (go_at_call_of 189 (Value.pointer (some ⟨g1, 0, none⟩)); refine (unhide B1).mono ?_; rintro e w' ⟨rfl, rfl⟩) | (go_at_call_of 189 (Value.pointer (some ⟨g2, 0, none⟩)); refine (unhide B2).mono ?_; rintro e w' ⟨rfl, rfl⟩))
    go_ret
    exact ⟨rfl, Kept.refl 0 0 _⟩
  · have e : cmpI (wval true xs) (wval true ys) = cmpI (val ys) (val xs) := by simp [wval]; unfold cmpI; split <;> split <;> (try split) <;> (try split) <;> omega
    rw [e]
    clear x1 y1 e
    go_enter Tryz.func196, Tryz.ntmps196
    go_wp2_with (first | (go_at_call_of 189 (Value.pointer (some ⟨g1, 0, none⟩)); refine (unhide B1).mono ?_; rintro e w' ⟨rfl, rfl⟩) | (go_at_call_of 189 (Value.pointer (some ⟨g2, 0, none⟩)); refine (unhide B2).mono ?_; rintro e w' ⟨rfl, rfl⟩))
    refine wp_region_held_drew (S := (fun _ => True)) (by kernel_rfl) ?_ (fun hHeld => ?_)
    · trivial
    refine wpAnyH_take (i := 0) (oi := _) (v := .pointer (some ⟨g2, 0, none⟩)) rfl (by kernel_rfl) (by kernel_rfl) (by kernel_rfl) (fun _ _ _ h => h) (Or.inl ⟨by rfl, ?_⟩) hHeld ?_
    · intro wq hSw
      try dsimp only at hSw
      go_simp
    try simp only [Act.put, List.getElem_toArray, List.getElem_cons_succ, List.getElem_cons_zero, List.setIfInBounds_toArray, List.set_cons_zero, List.set_cons_succ]
    refine wpAnyH_take (i := 1) (oi := _) (v := .pointer (some ⟨g2, 0, none⟩)) rfl (by kernel_rfl) (by kernel_rfl) (by kernel_rfl) (fun _ _ _ h => h) (Or.inl ⟨by rfl, ?_⟩) hHeld ?_
    · intro wq hSw
      try dsimp only at hSw
      go_simp
    try simp only [Act.put, List.getElem_toArray, List.getElem_cons_succ, List.getElem_cons_zero, List.setIfInBounds_toArray, List.set_cons_zero, List.set_cons_succ]
    refine wpAnyH_take (i := 2) (oi := _) (v := .pointer (some ⟨g2, 0, none⟩)) rfl (by kernel_rfl) (by kernel_rfl) (by kernel_rfl) (fun _ _ _ h => h) (Or.inl ⟨by rfl, ?_⟩) hHeld ?_
    · intro wq hSw
      try dsimp only at hSw
      go_simp
    try simp only [Act.put, List.getElem_toArray, List.getElem_cons_succ, List.getElem_cons_zero, List.setIfInBounds_toArray, List.set_cons_zero, List.set_cons_succ]
    refine wpAnyH_take (i := 3) (oi := _) (v := .pointer (some ⟨g1, 0, none⟩)) rfl (by kernel_rfl) (by kernel_rfl) (by kernel_rfl) (fun _ _ _ h => h) (Or.inl ⟨by rfl, ?_⟩) hHeld ?_
    · intro wq hSw
      try dsimp only at hSw
      go_simp
    try simp only [Act.put, List.getElem_toArray, List.getElem_cons_succ, List.getElem_cons_zero, List.setIfInBounds_toArray, List.set_cons_zero, List.set_cons_succ]
    refine wpAnyH_take (i := 4) (oi := _) (v := .pointer (some ⟨g1, 0, none⟩)) rfl (by kernel_rfl) (by kernel_rfl) (by kernel_rfl) (fun _ _ _ h => h) (Or.inl ⟨by rfl, ?_⟩) hHeld ?_
    · intro wq hSw
      try dsimp only at hSw
      go_simp
    try simp only [Act.put, List.getElem_toArray, List.getElem_cons_succ, List.getElem_cons_zero, List.setIfInBounds_toArray, List.set_cons_zero, List.set_cons_succ]
    refine wpAnyH_take (i := 5) (oi := _) (v := .pointer (some ⟨g1, 0, none⟩)) rfl (by kernel_rfl) (by kernel_rfl) (by kernel_rfl) (fun _ _ _ h => h) (Or.inl ⟨by rfl, ?_⟩) hHeld ?_
    · intro wq hSw
      try dsimp only at hSw
      go_simp
    try simp only [Act.put, List.getElem_toArray, List.getElem_cons_succ, List.getElem_cons_zero, List.setIfInBounds_toArray, List.set_cons_zero, List.set_cons_succ]
    refine wpAnyH_ready (rs := [6]) (by kernel_rfl) (by simp) ?_
    refine AllReadyH.cons rfl (fun KK hK => ?_) AllReadyH.nil
    simp only [List.getElem_toArray, List.getElem_cons_succ, List.getElem_cons_zero]
    rw [if_pos (by rfl)]
    refine wps2 218 (.tmp 14) (.tmp 17) _ rfl in_compare (.pointer (some ⟨g2, 0, none⟩)) (.pointer (some ⟨g1, 0, none⟩)) rfl rfl (compare_impl _ ((unhide T).kept (Kept.refl 0 0 _).drew).n2 ((unhide T).kept (Kept.refl 0 0 _).drew).n1 hy hx) ?_
    rintro e w5 ⟨rfl, k5⟩
    refine ⟨_, rfl, ?_⟩
    have K5 := hide ((Kept.refl 0 0 _).drew.trans k5)
    clear k5
    clear hHeld
    refine hK.out _ _ ?_ (fun hHeld => ?_)
    · trivial
    clear hK KK
    try simp only [Act.put, List.getElem_toArray, List.getElem_cons_succ, List.getElem_cons_zero, List.setIfInBounds_toArray, List.set_cons_zero, List.set_cons_succ]
    refine wpAnyH_take (i := 7) (oi := _) (v := .int .i64 (cmpI (val ys) (val xs))) rfl (by kernel_rfl) (by kernel_rfl) (by kernel_rfl) (fun _ _ _ h => h) (Or.inl ⟨by rfl, ?_⟩) hHeld ?_
    · intro wq hSw
      try dsimp only at hSw
      go_simp
    try simp only [Act.put, List.getElem_toArray, List.getElem_cons_succ, List.getElem_cons_zero, List.setIfInBounds_toArray, List.set_cons_zero, List.set_cons_succ]
    refine wpAnyH_done (by kernel_rfl) ?_ _
    clear hHeld
    go_wp2
    go_ret
    exact ⟨rfl, unhide K5⟩

end Go.Proofs.YthahoabkehcgbaaGreatDoor

namespace Go.Proofs.YthahoabkehcgbaaGreatDoor
open Go.RowKit
set_option linter.unusedVariables false
set_option maxRecDepth 8000
set_option linter.unusedSimpArgs false

theorem put_sig {w : World} {X b : Nat} {u z p : Value} {xs : List Int} (s : Bool) (O : w.ownsRow b 3 1 u xs.length (xs.map (Value.int .i64)))
    (cX : w.cell? ⟨X, 0, none⟩ = some z) (dX : w.cell? ⟨X, 1, none⟩ = some p) (fX : w.frozen? ⟨X, 0, none⟩ = false) (gX : w.frozen? ⟨X, 1, none⟩ = false) (hu : u.ownBlock ≠ some X) :
    Num b ((w.setCell ⟨X, 0, none⟩ u).setCell ⟨X, 1, none⟩ (.bool s)) X u xs ∧ Sd ((w.setCell ⟨X, 0, none⟩ u).setCell ⟨X, 1, none⟩ (.bool s)) X s ∧ Mod (fun i => i = X) w ((w.setCell ⟨X, 0, none⟩ u).setCell ⟨X, 1, none⟩ (.bool s)) := by
  have a2 : (w.setCell ⟨X, 0, none⟩ u).cell? ⟨X, 1, none⟩ = some p := (side_set _ _ _).trans dX
  refine ⟨⟨(front_set _ _ _).trans (cell_on _ _ _ _ _ cX), by rw [frozen_set, frozen_set]; exact fX, own_apart (own_apart O (p := ⟨X, 0, none⟩) hu u) (p := ⟨X, 1, none⟩) hu _, hu⟩, ⟨by have := cell_set _ X 1 1 (.bool s) _ a2; simpa using this, by rw [frozen_set, frozen_set]; exact gX⟩, ?_⟩
  exact Mod.set (S := fun i => i = X) (Mod.set (S := fun i => i = X) (Mod.refl _ _) (p := ⟨X, 0, none⟩) (.inl rfl) _) (p := ⟨X, 1, none⟩) (.inl rfl) _
theorem in_signedOf : ∀ (w : World) (args : Array Value), (callFunc 183 args).run Tryz.prog w = .ok (.enter 183 args) w := enters Tryz.func183 (by decide) (fun h => by cases h)

end Go.Proofs.YthahoabkehcgbaaGreatDoor

