/-
  The program's isZero and shiftUp.
-/
import Derived.Test.YtkifpodnljlhiaaDoorBF
import Derived.Test.YtkifpodnljlhiaaDoorBB
namespace Go.Proofs.YtkifpodnljlhiaaDoor
open Go.RowKit
set_option linter.unusedVariables false
set_option maxRecDepth 8000

set_option maxHeartbeats 1000000 in
theorem isZero_impl {b g : Nat} {v : Value} {zs : List Int} (w : World) (h : Num b w g v zs) :
    Calls Tryd.prog 35 #[.pointer (some ⟨g, 0, none⟩)] w fun e w' => e = .returned (.bool (decide (zs.length = 0))) ∧ w' = w := by
  have hc := h.cell
  obtain ⟨a1, c1, rfl⟩ := h.form
  clear h
  go_enter Tryd.func35, Tryd.ntmps35
  go_wp2
  go_ret
  refine ⟨?_, rfl⟩
  cases zs with
  | nil => simp
  | cons z t => simp; omega

set_option maxHeartbeats 1000000 in
theorem shiftUp_zero {b g : Nat} {v : Value} (w : World) (h : Num b w g v []) (k : Int) :
    Calls Tryd.prog 21 #[.pointer (some ⟨g, 0, none⟩), .int .i64 k] w fun e w' => (∃ r, e = .returned r) ∧ w' = w := by
  have hz := isZero_impl w h
  have e : (decide (([] : List Int).length = 0)) = true := rfl
  rw [e] at hz
  have HZ := hide hz
  clear hz h e
  go_enter Tryd.func21, Tryd.ntmps21
  go_wp2_with (go_at_call 35; refine (unhide HZ).mono ?_; rintro e w' ⟨rfl, rfl⟩)
  exact bodyPost_ret (v := .tuple #[]) (by simp [results, Tryd.results21, go_sem]) rfl ⟨⟨_, rfl⟩, rfl⟩

set_option maxHeartbeats 8000000 in
theorem shiftUp_impl {b g : Nat} {v : Value} {xs : List Int} (w : World) (h : Num b w g v xs) (hx : Lim xs) (hne : xs ≠ []) (nx : xs.length ≤ 50000) (k : Nat) (hk : k ≤ 800000) :
    Calls Tryd.prog 21 #[.pointer (some ⟨g, 0, none⟩), .int .i64 (k : Int)] w fun e w' => (∃ r, e = .returned r) ∧ ∃ u, Num w.heap.size w' g u (limbs ((val xs).toNat * 2 ^ k)) ∧ Mod (fun i => i = g) w w' := by
  obtain ⟨q, s, hs, rfl⟩ : ∃ q s : Nat, s < 16 ∧ k = 16 * q + s := ⟨k / 16, k % 16, by omega, by omega⟩
  obtain ⟨K, hK⟩ : ∃ K : Int, K = ((16 * q + s : Nat) : Int) := ⟨_, rfl⟩
  have e3 : K.tdiv 16 = (q : Int) := by rw [Int.tdiv_eq_ediv_of_nonneg (by omega)]; omega
  have e4 : K.tmod 16 = (s : Int) := by rw [Int.tmod_eq_emod_of_nonneg (by omega)]; omega
  have hq63 : q ≤ 50000 := by omega
  have hKK : 0 ≤ K ∧ K ≤ 800000 := by omega
  rw [← hK]
  obtain ⟨M, hM⟩ : ∃ M, M = xs.length := ⟨_, rfl⟩
  obtain ⟨T, hT⟩ : ∃ T, T = q + M + 1 := ⟨_, rfl⟩
  have hM0 : 0 < M := by rw [hM]; exact List.length_pos_iff.2 hne
  have htot := shl_total xs hx q s
  generalize hA : (val xs).toNat * 2 ^ (16 * q + s) = A at *
  obtain ⟨D, hD⟩ : ∃ D : Int, D = ((2 ^ s : Nat) : Int) := ⟨_, rfl⟩
  rw [← hD] at htot
  have hDp : 0 < D := by rw [hD]; have := Nat.pow_pos (n := s) (show 0 < 2 by decide); omega
  have hDE : D * ((2 ^ (16 - s) : Nat) : Int) = 65536 := by
    rw [hD, ← Int.natCast_mul, ← Nat.pow_add, show s + (16 - s) = 16 by omega]; rfl
  have hDm : D ≤ 65536 := by
    rw [hD]; have := Nat.pow_le_pow_right (n := 2) (by decide) (show s ≤ 16 by omega); omega
  have HTOT := hide htot
  have HDE := hide hDE
  have ep : (2 : Int) ^ s = D := by rw [hD]; simp
  obtain ⟨a1, c1, hv1⟩ := h.form
  rw [← hM] at hv1
  subst hv1
  have hnx : M ≤ 50000 := by omega
  have HM := hide hM
  have HT := hide hT
  have hTT : (q : Int) + (M : Int) + 1 = (T : Int) := by omega
  have hnT : T ≤ 100001 := by omega
  have HA1 := hide ((row_cell h.row).2.2.2)
  have N1 := hide h
  have hz := isZero_impl w h
  rw [decide_eq_false (by omega)] at hz
  have HZ := hide hz
  obtain ⟨i0, hi0, hz0, hz1, hz2⟩ := info_parts Tryd.info3'
  obtain ⟨w2, hrun, hown2, hgrow2⟩ := run_make_full (P := Tryd.prog) w w.heap.size 23 3 i0 (.int .i64 0) 1 Tryd.underlying23 hi0 hz0 hz1 .i64 .i64 T (by rw [hz2]; omega) (by unfold maxLen; omega) (Nat.le_refl _)
  have hf0 := made_fresh (Kept.refl 0 0 w) hown2 hgrow2
  have HF := hide hf0
  have hce1 := hf0.k.cell0 h.cell
  have hce1w := h.cell
  obtain ⟨G, hG0⟩ : ∃ G, G = w.heap.size := ⟨_, rfl⟩
  rw [← hG0] at hrun HF
  have hs0 : ¬ ((s : Int) < 0) := by omega
  have hs64 : (s : Int) < 64 := by omega
  have HEP := hide ep
  clear hown2 hgrow2 hf0 hG0 hi0 hz0 hz1 hz2 htot hDE hD h hz hK hA hT hM nx hne hk ep
  go_enter Tryd.func21, Tryd.ntmps21
  go_wp2_with (go_at_call 35; refine (unhide HZ).mono ?_; rintro e w' ⟨rfl, rfl⟩)
  clear hrun hce1 hce1w
  go_loopw [30] (fun ii wr => ∃ (zs : List Int) (i : Nat), ii = .int .i64 (i : Int) ∧ i ≤ M ∧ zs.length = T ∧ Lim zs ∧ Hid (zs.getD (q + i) 0 ≤ D - 1) ∧ Hid (∀ p, q + i < p → zs.getD p 0 = 0) ∧ Hid (val zs = 65536 ^ q * (val (xs.take i) * D)) ∧ Fresh w' wr (.slice (some ⟨G, 0, none⟩) T T) zs) (fun ii _ => M - (intOf ii).toNat)
  case atStart => exact ⟨List.replicate T 0, 0, rfl, Nat.zero_le _, by simp, Lim.zeros T, by show _ ≤ _; have := Bnd.zeros T (q + 0); omega, fun p _ => by have := Bnd.zeros T p; omega, by show _ = _; rw [val_zeros]; simp [val], unhide HF⟩
  case round =>
    clear HF
    obtain ⟨zs, i, rfl, hi, hs', hlz, hc, hp, hV, hf⟩ := hrel
    by_cases hA : i < M
    · have hi1 : (i : Int) < (M : Int) := by omega
      have hx0 := hx.at i
      obtain ⟨gA, oA, rfl, x1⟩ := unhide HA1 i (by have := unhide HM; omega)
      replace x1 := hf.k.cell0 x1
      have hik : q + i + 1 < T := by have := unhide HT; omega
      obtain ⟨y1, y2⟩ := hf.at hs'.symm (q + i) (by omega)
      obtain ⟨y3, y4⟩ := hf.at hs'.symm (q + i + 1) hik
      have hz1 := unhide hp (q + i + 1) (by omega)
      rw [hz1] at y3
      have hsl := shl_limb hDp (unhide HDE) hx0
      have hput := shl_put zs xs q i D _ (by rw [← unhide HM]; exact hA) (by omega) rfl hz1 (unhide hV)
      have hzc := hlz.at (q + i)
      have hcc := unhide hc
      generalize hva : xs.getD i 0 = va at *
      generalize hvz : zs.getD (q + i) 0 = vz at *
      have hl1 := (hlz.set (q + i) (x := vz + va * D % 65536) (by omega) (by omega)).set (q + i + 1) (x := va * D / 65536) (by omega) (by omega)
      have HL1 := hide hl1
      have HPUT := hide hput
      have hX : 0 ≤ va * D ∧ va * D ≤ 4294967296 := by omega
      have HC2 : Hid (((zs.set (q + i) (vz + va * D % 65536)).set (q + i + 1) (va * D / 65536)).getD (q + (i + 1)) 0 ≤ D - 1) := by
        show _ ≤ _
        rw [show q + (i + 1) = q + i + 1 from rfl, getD_set_eq _ _ _ (by rw [List.length_set]; omega)]
        omega
      have HP2 : Hid (∀ p, q + (i + 1) < p → ((zs.set (q + i) (vz + va * D % 65536)).set (q + i + 1) (va * D / 65536)).getD p 0 = 0) := fun p h => by
        rw [getD_set_ne _ _ _ _ (by omega), getD_set_ne _ _ _ _ (by omega)]; exact unhide hp p (by omega)
      have hls : ((zs.set (q + i) (vz + va * D % 65536)).set (q + i + 1) (va * D / 65536)).length = T := by simpa using hs'
      have HLS := hide hls
      have hpt := (hf.put hs'.symm (q + i) (vz + va * D % 65536))
      have y3' := cell_off _ G (q + i + 1) (q + i) (.int .i64 (vz + va * D % 65536)) _ y3 (by omega)
      have hpt2 := hpt.put (by rw [List.length_set]; exact hs'.symm) (q + i + 1) (va * D / 65536)
      have HPT := hide hpt2
      have hij : (q : Int) + (i : Int) < (T : Int) := by omega
      have hij0 : 0 ≤ (q : Int) + (i : Int) := by omega
      have hij1 : (q : Int) + (i : Int) + 1 < (T : Int) := by omega
      have hij2 : 0 ≤ (q : Int) + (i : Int) + 1 := by omega
      have et : (va * D).tmod 65536 = va * D % 65536 := by rw [Int.tmod_eq_emod_of_nonneg (by omega)]
      have ed : (va * D).tdiv 65536 = va * D / 65536 := by rw [Int.tdiv_eq_ediv_of_nonneg (by omega)]
      have hep := unhide HEP
      clear hV hput hc hp hva hvz hf hs' hls hlz hpt hpt2 hl1 hz1
      go_wp2
      go_roundw
      case rel => exact ⟨_, i + 1, by go_num, by omega, unhide HLS, unhide HL1, HC2, HP2, HPUT, unhide HPT⟩
      case measure => simp [intOf]; omega
    · have hiM : i = M := by omega
      have hi1 : ¬ (i : Int) < (M : Int) := by omega
      have hv := unhide hV
      rw [List.take_of_length_le (by rw [← unhide HM]; omega), unhide HTOT] at hv
      have hlt1 := (unhide N1).lt
      have hG := (hf.own.lt G rfl).1
      have hc1' := hf.k.cell0 (unhide N1).cell
      have hf1' := hf.k.loose0 (a := ⟨g, 0, none⟩) hlt1 (unhide N1).loose
      have hown := hf.own
      rw [hs'] at hown
      have hnum : Num w'.heap.size (wr.setCell ⟨g, 0, none⟩ (.slice (some ⟨G, 0, none⟩) T T)) g (.slice (some ⟨G, 0, none⟩) T T) zs :=
        ⟨cell_on _ _ _ _ _ hc1', by rw [frozen_set]; exact hf1', by rw [hs']; exact own_apart hown (p := ⟨g, 0, none⟩) (by simp [Value.ownBlock]; omega) _, by simp [Value.ownBlock]; omega⟩
      have hmod : Mod (fun i => i = g) w' (wr.setCell ⟨g, 0, none⟩ (.slice (some ⟨G, 0, none⟩) T T)) := Mod.set (S := fun i => i = g) hf.k.toMod (p := ⟨g, 0, none⟩) (.inl rfl) _
      have NU := hide hnum
      have MO := hide hmod
      have HVV := hide hv
      clear hnum hmod hv hown hf hc hp hV hiM
      go_wp2_with fail
      refine (trim_impl _ (unhide NU) hlz).mono ?_
      rintro e w6 ⟨⟨r6, rfl⟩, u6, n6, ho6, m6⟩
      have N6 := hide n6
      rw [unhide HVV, Int.toNat_natCast] at N6
      have M6 := hide ((unhide MO).trans m6)
      clear n6 ho6 m6
      go_wp2
      exact bodyPost_end (v := .tuple #[]) (by simp [results, Tryd.results21, go_sem]) rfl ⟨⟨_, rfl⟩, _, unhide N6, unhide M6⟩

end Go.Proofs.YtkifpodnljlhiaaDoor
