/-
  The program's multiply: a product of two numbers, which may be one and the same, written into the first.
-/
import Derived.Test.YtlaelfkhlloglaaDoorINat15
import Derived.Test.YtlaelfkhlloglaaDoorBB
import Derived.Deep.RegionLaw
namespace Go.Proofs.YtlaelfkhlloglaaDoor
open Go.RowKit
set_option linter.unusedVariables false
set_option maxRecDepth 8000

/-- A list of the call's own, newer than w; nothing that was there has changed. -/
structure Fresh (w wr : World) (v : Value) (zs : List Int) : Prop where
  own : wr.ownsRow w.heap.size 3 1 v zs.length (zs.map (Value.int .i64))
  k : Kept 0 0 w wr

theorem Fresh.drewN {w wr : World} {v : Value} {zs : List Int} (h : Fresh w wr v zs) (n : Nat) : Fresh w (wr.drewN n) v zs := ⟨own_kept h.own ((Kept.refl 0 0 wr).drewN n), h.k.drewN n⟩
theorem Fresh.put {w wr : World} {g n c : Nat} {zs : List Int} (h : Fresh w wr (.slice (some ⟨g, 0, none⟩) n c) zs) (hn : n = zs.length) (j : Nat) (z : Int) : Fresh w (wr.setCell ⟨g, j, none⟩ (.int .i64 z)) (.slice (some ⟨g, 0, none⟩) n c) (zs.set j z) := by
  subst hn
  exact ⟨own_set h.own j z, h.k.setNew (p := ⟨g, j, none⟩) (h.own.lt g rfl).1 _⟩
theorem Fresh.at {w wr : World} {g n c : Nat} {zs : List Int} (h : Fresh w wr (.slice (some ⟨g, 0, none⟩) n c) zs) (hn : n = zs.length) (j : Nat) (hj : j < n) :
    wr.cell? ⟨g, j, none⟩ = some (.int .i64 (zs.getD j 0)) ∧ wr.frozen? ⟨g, j, none⟩ = false := by
  subst hn
  exact own_cell h.own j hj
theorem made_fresh {w wr w' : World} {n : Nat} (k : Kept 0 0 w wr) (hown : w'.ownsRow w.heap.size 3 1 (.slice (some ⟨wr.heap.size, 0, none⟩) n n) n (madeCells (Value.int .i64 0).cells (n * 1)).toList) (hgrow : wr.grownBy w' none) : Fresh w w' (.slice (some ⟨wr.heap.size, 0, none⟩) n n) (List.replicate n 0) := by
  rw [made_zero] at hown
  exact ⟨by simpa using hown, k.trans ⟨hgrow.os, hgrow.tape, hgrow.output, hgrow.size, fun i hi _ => hgrow.block i hi (by simp)⟩⟩

set_option maxHeartbeats 8000000 in
theorem multiply_impl {b1 b2 g1 g2 : Nat} {v1 v2 : Value} {xs ys : List Int} (w : World) (n1 : Num b1 w g1 v1 xs) (n2 : Num b2 w g2 v2 ys) (hx : Lim xs) (hy : Lim ys) (nx : xs.length ≤ 100000) (ny : ys.length ≤ 100000) :
    Calls Tryd.prog 71 #[.pointer (some ⟨g1, 0, none⟩), .pointer (some ⟨g2, 0, none⟩)] w fun e w' => (∃ r, e = .returned r) ∧ ∃ u, Num w.heap.size w' g1 u (limbs (val xs * val ys).toNat) ∧ Mod (fun i => i = g1) w w' := by
  obtain ⟨M, hM⟩ : ∃ M, M = xs.length := ⟨_, rfl⟩
  obtain ⟨N, hN⟩ : ∃ N, N = ys.length := ⟨_, rfl⟩
  obtain ⟨a1, c1, hv1⟩ := n1.form
  obtain ⟨a2, c2, hv2⟩ := n2.form
  rw [← hM] at hv1
  rw [← hN] at hv2
  subst hv1
  subst hv2
  have hnx : M ≤ 100000 := by omega
  have hny : N ≤ 100000 := by omega
  have HM := hide hM
  have HN := hide hN
  have N1 := hide n1
  have N2 := hide n2
  clear hM hN nx ny n1 n2
  obtain ⟨P, HP⟩ : ∃ P, Hid (val xs * val ys = P) := ⟨_, rfl⟩
  obtain ⟨T, hT⟩ : ∃ T, T = M + N := ⟨_, rfl⟩
  have hnT : T ≤ 200000 := by omega
  have HT := hide hT
  have hTT : (M : Int) + (N : Int) = (T : Int) := by omega
  have HA1 := hide ((row_cell (unhide N1).row).2.2.2)
  have HA2 := hide ((row_cell (unhide N2).row).2.2.2)
  clear hT
  obtain ⟨i0, hi0, hz0, hz1, hz2⟩ := info_parts Tryd.info3'
  obtain ⟨w2, hrun, hown2, hgrow2⟩ := run_make_full (P := Tryd.prog) w.drew w.heap.size 41 3 i0 (.int .i64 0) 1 Tryd.underlying41 hi0 hz0 hz1 .i64 .i64 T (by rw [hz2]; omega) (by unfold maxLen; omega) (Nat.le_refl _)
  have hf0 := made_fresh (Kept.refl 0 0 w).drew hown2 hgrow2
  have HF := hide hf0
  have hce1 := hf0.k.cell0 (unhide N1).cell
  have hce2 := hf0.k.cell0 (unhide N2).cell
  have hce1w := (unhide N1).cell
  have hce2w := (unhide N2).cell
  obtain ⟨G, hG0⟩ : ∃ G, G = w.drew.heap.size := ⟨_, rfl⟩
  rw [← hG0] at hrun HF
  clear hown2 hgrow2 hf0 hG0 hi0 hz0 hz1 hz2
  go_enter Tryd.func71, Tryd.ntmps71
  go_wp2
  go_region
  clear hrun
  go_wp2
  clear hce1 hce2 hce1w hce2w
  go_loopw [29] (fun ii wr => ∃ (ss : List Int) (i : Nat), ii = .int .i64 (i : Int) ∧ i ≤ M ∧ ss.length = T ∧ Bnd ((i : Int) * 4294836225) ss ∧ Hid (val ss = val (xs.take i) * val ys) ∧ Fresh w wr (.slice (some ⟨G, 0, none⟩) T T) ss) (fun ii _ => M - (intOf ii).toNat)
  case atStart => exact ⟨List.replicate T 0, 0, rfl, Nat.zero_le _, by simp, by simpa using Bnd.zeros T, by show _ = _; rw [val_zeros]; simp [val], unhide HF⟩
  case round =>
    clear HF
    obtain ⟨ss, i, rfl, hi, hs, hb, hV, hf⟩ := hrel
    have hce2 := hf.k.cell0 (unhide N2).cell
    by_cases hA : i < M
    · have hi1 : (i : Int) < (M : Int) := by omega
      have hx0 := hx.at i
      obtain ⟨gA, oA, rfl, x1⟩ := unhide HA1 i (by have := unhide HM; omega)
      have x1' := hf.k.cell0 x1
      have hts := val_take_succ xs i (by rw [← unhide HM]; omega)
      have HTS := hide hts
      have HF2 := hide hf
      have HV := hide (unhide hV)
      have HB := hide hb
      generalize hva : xs.getD i 0 = va at *
      have HVA := hide hva
      clear hts hV hva x1 hf hb
      go_wp2
      clear hce2 x1'
      go_loopw [39] (fun kk wr => ∃ (ss' : List Int) (k : Nat), kk = .int .i64 (k : Int) ∧ k ≤ N ∧ ss'.length = T ∧ Hid (Bnd ((i : Int) * 4294836225 + 4294836225) ss') ∧ Hid (∀ q, i + k ≤ q → ss'.getD q 0 ≤ (i : Int) * 4294836225) ∧ Hid (val ss' = val (xs.take i) * val ys + 65536 ^ i * (va * val (ys.take k))) ∧ Fresh w wr (.slice (some ⟨G, 0, none⟩) T T) ss') (fun kk _ => N - (intOf kk).toNat)
      case atStart => exact ⟨ss, 0, rfl, Nat.zero_le _, hs, hide ((unhide HB).more (by omega)), hide (fun q _ => (unhide HB q).2), by show _ = _; rw [unhide HV]; simp [val], unhide HF2⟩
      case round =>
        clear HF2 HV HB hs ss
        obtain ⟨ss, k, rfl, hk, hs, hb, hq, hV, hf⟩ := hrel
        by_cases hB : k < N
        · obtain ⟨gB, oB, rfl, x2⟩ := unhide HA2 k (by have := unhide HN; omega)
          replace x2 := hf.k.cell0 x2
          have hy0 := hy.at k
          have hik : i + k < T := by have := unhide HT; omega
          obtain ⟨y1, y2⟩ := hf.at hs.symm (i + k) hik
          have hV2 := msum_step ss ys i k (by omega) va _ (by rw [← unhide HN]; omega) (unhide hV)
          have hvo0 := (unhide hb (i + k)).1
          have hvo1 := unhide hq (i + k) (Nat.le_refl _)
          generalize hvb : ys.getD k 0 = vb at *
          generalize hvo : ss.getD (i + k) 0 = vo at *
          have hp := limb_mul hx0 hy0
          have hb2 := (unhide hb).set (Int.le_refl _) (i + k) (by omega) (z := vo + va * vb) (by omega) (by omega)
          have HB2 := hide hb2
          have HQ2 : Hid (∀ q, i + (k + 1) ≤ q → (ss.set (i + k) (vo + va * vb)).getD q 0 ≤ (i : Int) * 4294836225) := fun q h => by rw [getD_set_ne _ _ _ _ (by omega)]; exact unhide hq q (by omega)
          have HV2 := hide hV2
          have hi2 : (k : Int) < (N : Int) := by omega
          have hij : (i : Int) + (k : Int) < (T : Int) := by omega
          have hij0 : 0 ≤ (i : Int) + (k : Int) := by omega
          have hX : 0 ≤ vo + va * vb ∧ vo + va * vb ≤ 4294836225 * 100001 := by omega
          have hls : (ss.set (i + k) (vo + va * vb)).length = T := by simpa using hs
          have HLS := hide hls
          have hpt := hide (fun n => (hf.drewN n).put hs.symm (i + k) (vo + va * vb))
          have hp0 := hide (hf.put hs.symm (i + k) (vo + va * vb))
          clear hV hV2 hb hb2 hq hvb hvo hf hs hls
          go_wp2
          go_roundw
          case rel => exact ⟨_, k + 1, by go_num, by omega, unhide HLS, HB2, HQ2, HV2, by first | exact unhide hp0 | exact unhide hpt _⟩
          case measure => simp [intOf]; omega
        · have hkN : k = N := by omega
          subst hkN
          have HV2 : Hid (val ss = val (xs.take (i + 1)) * val ys) := by
            show _ = _
            have e := unhide hV
            rw [List.take_of_length_le (Nat.le_of_eq (unhide HN).symm)] at e
            rw [e, unhide HTS, Int.add_mul, Int.mul_assoc]
          have hi2 : ¬ (k : Int) < (k : Int) := by omega
          have HB2 : Hid (Bnd (((i + 1 : Nat) : Int) * 4294836225) ss) := by
            have e : ((i + 1 : Nat) : Int) * 4294836225 = (i : Int) * 4294836225 + 4294836225 := by omega
            rw [e]; exact unhide hb
          have HF3 := hide hf
          clear hV hb hq hf
          go_wp2
          go_roundw
          case rel => exact ⟨ss, i + 1, by go_num, by omega, hs, unhide HB2, HV2, unhide HF3⟩
          case measure => simp [intOf]; omega
    · have hiM : i = M := by omega
      have hV' := unhide hV
      rw [List.take_of_length_le (by rw [← unhide HM]; omega)] at hV'
      have hi1 : ¬ (i : Int) < (M : Int) := by omega
      have HB3 := hide (hb.more (B' := 429483622500000) (by omega))
      have HV3 : Hid (val ss + 65536 ^ 0 * 0 = P) := by show _ = _; rw [hV', unhide HP]; simp
      have HF3 := hide hf
      clear hV hV' hb hf hiM hce2
      go_wp2
      go_loopw [9, 59] (fun cc ii wr => ∃ (zs : List Int) (c : Int) (i : Nat), cc = .int .i64 c ∧ ii = .int .i64 (i : Int) ∧ i ≤ T ∧ 0 ≤ c ∧ c ≤ 1000000000000000 ∧ zs.length = T ∧ Hid (Bnd 429483622500000 zs) ∧ Hid (∀ q, q < i → zs.getD q 0 ≤ 65535) ∧ Hid (val zs + 65536 ^ i * c = P) ∧ Fresh w wr (.slice (some ⟨G, 0, none⟩) T T) zs) (fun _ ii _ => T - (intOf ii).toNat)
      case atStart => exact ⟨ss, 0, 0, rfl, rfl, Nat.zero_le _, Int.le_refl _, by omega, hs, HB3, hide (fun q h => by omega), HV3, unhide HF3⟩
      case round =>
        clear HF3 HV3 HB3 hs ss hi1 hA hi
        obtain ⟨zs, c, i, rfl, rfl, hi, hc0, hc1, hs, hb, hq, hV, hf⟩ := hrel
        by_cases hB : i < T
        · obtain ⟨y1, y2⟩ := hf.at hs.symm i hB
          have hV2 := carry_step zs i (by omega) c P _ rfl (unhide hV)
          have hz0 := unhide hb i
          generalize hzz : zs.getD i 0 = z at *
          have hb2 := (unhide hb).set (Int.le_refl _) i (by omega) (z := (z + c) % 65536) (by omega) (by omega)
          have HB2 := hide hb2
          have HQ2 : Hid (∀ q, q < i + 1 → (zs.set i ((z + c) % 65536)).getD q 0 ≤ 65535) := fun q h => by
            by_cases e : q = i
            · subst e; rw [getD_set_eq _ _ _ (by omega)]; omega
            · rw [getD_set_ne _ _ _ _ e]; exact unhide hq q (by omega)
          have HV2 := hide hV2
          have hi2 : (i : Int) < (T : Int) := by omega
          have hX : 0 ≤ z + c ∧ z + c ≤ 1429483622500000 := by omega
          have et : (z + c).tmod 65536 = (z + c) % 65536 := by rw [Int.tmod_eq_emod_of_nonneg (by omega)]
          have ed : (z + c).tdiv 65536 = (z + c) / 65536 := by rw [Int.tdiv_eq_ediv_of_nonneg (by omega)]
          have hls : (zs.set i ((z + c) % 65536)).length = T := by simpa using hs
          have HLS := hide hls
          have hdv : 0 ≤ (z + c) / 65536 ∧ (z + c) / 65536 ≤ 1000000000000000 := by omega
          have hpt := hide (fun n => (hf.drewN n).put hs.symm i ((z + c) % 65536))
          have hp0 := hide (hf.put hs.symm i ((z + c) % 65536))
          clear hV hV2 hb hb2 hq hzz hf hs hls
          go_wp2
          go_roundw
          case rel => exact ⟨_, (z + c) / 65536, i + 1, by first | rfl | go_num, by go_num, by omega, hdv.1, hdv.2, unhide HLS, HB2, HQ2, HV2, by first | exact unhide hp0 | exact unhide hpt _⟩
          case measure => simp [intOf]; omega
        · have hiT : i = T := by omega
          subst hiT
          have hlim : Lim zs := lim_of_at (fun q h => ⟨(unhide hb q).1, unhide hq q (by omega)⟩)
          have hv := carry_end hlim hc0 (P := P) (by rw [hs, unhide HT, unhide HM, unhide HN, ← unhide HP]; exact mul_lt_pow hx hy) (by rw [hs]; exact unhide hV)
          have hi2 : ¬ (i : Int) < (i : Int) := by omega
          have hlt1 := (unhide N1).lt
          have hG := (hf.own.lt G rfl).1
          have hc1' := hf.k.cell0 (unhide N1).cell
          have hf1' := hf.k.loose0 (a := ⟨g1, 0, none⟩) hlt1 (unhide N1).loose
          have hown := hf.own
          rw [hs] at hown
          have hnum : Num w.heap.size (wr.setCell ⟨g1, 0, none⟩ (.slice (some ⟨G, 0, none⟩) i i)) g1 (.slice (some ⟨G, 0, none⟩) i i) zs :=
            ⟨cell_on _ _ _ _ _ hc1', by rw [frozen_set]; exact hf1', by rw [hs]; exact own_apart hown (p := ⟨g1, 0, none⟩) (by simp [Value.ownBlock]; omega) _, by simp [Value.ownBlock]; omega⟩
          have hmod : Mod (fun i => i = g1) w (wr.setCell ⟨g1, 0, none⟩ (.slice (some ⟨G, 0, none⟩) i i)) := Mod.set (S := fun i => i = g1) hf.k.toMod (p := ⟨g1, 0, none⟩) (.inl rfl) _
          have NU := hide hnum
          have MO := hide hmod
          have HVV := hide hv
          have HLI := hide hlim
          clear hnum hmod hv hlim hown hf hb hq hV
          go_wp2_with fail
          refine (trim_impl _ (unhide NU) (unhide HLI)).mono ?_
          rintro e w6 ⟨⟨r6, rfl⟩, u6, n6, ho6, m6⟩
          have N6 := hide n6
          rw [unhide HVV, ← unhide HP] at N6
          have M6 := hide ((unhide MO).trans m6)
          clear n6 ho6 m6
          go_wp2
          exact bodyPost_end (v := .tuple #[]) (by simp [results, Tryd.results71, go_sem]) rfl ⟨⟨_, rfl⟩, _, unhide N6, unhide M6⟩

end Go.Proofs.YtlaelfkhlloglaaDoor
