/-
  The program's trim and shiftDown of a number whose list may begin behind its block's first cell.
-/
import Derived.Test.YtpdgajfkhjdgaaaDoorWrk
namespace Go.Proofs.YtpdgajfkhjdgaaaDoor
open Go.RowKit
set_option linter.unusedVariables false
set_option maxRecDepth 8000
set_option linter.unusedSimpArgs false

set_option maxHeartbeats 4000000 in
theorem trim_wrk {b g : Nat} {v : Value} {zs : List Int} (w : World) (h : Wrk b w g v zs) (hl : Lim zs) :
    Calls Tryd.prog 99 #[.pointer (some ⟨g, 0, none⟩)] w fun e w' => (∃ r, e = .returned r) ∧ ∃ u, Wrk b w' g u (limbs (val zs).toNat) ∧ u.ownBlock = v.ownBlock ∧ Mod (fun i => i = g) w w' ∧ SameSide g w w' := by
  have hm := h.row.len
  unfold maxLen at hm
  have HL := hide hl
  clear hl
  go_enter Tryd.func99, Tryd.ntmps99
  go_wp2
  go_loopw [] (fun wr => ∃ (m : Nat) (u : Value), m ≤ zs.length ∧ Hid (∀ i, m ≤ i → i < zs.length → zs.getD i 0 = 0) ∧ Wrk b wr g u (zs.take m) ∧ Hid (u.ownBlock = v.ownBlock) ∧ Mod (fun i => i = g) w wr ∧ SameSide g w wr) (fun wr => lenAt wr g)
  case atStart => exact ⟨zs.length, v, Nat.le_refl _, hide (fun i h1 h2 => by omega), by rw [List.take_length]; exact h, hide rfl, Mod.refl _ _, SameSide.refl _ _⟩
  case round =>
    clear h
    obtain ⟨m, u, hmz, hz, n, ho, hmod, hsd⟩ := hrel
    have SS := hide hsd
    clear hsd
    have hlen : (zs.take m).length = m := by simp; omega
    have hlo := n.loose
    by_cases h0 : m = 0
    · subst h0
      obtain ⟨a1, c1, hv⟩ := n.form
      rw [hlen] at hv
      subst hv
      have hce := n.cell
      have e1 := take_limbs zs (unhide HL) 0 (by omega) (unhide hz) (.inl rfl)
      rw [e1] at n
      have NN := hide n
      have MM := hide hmod
      have hd : decide ((0 : Int) < ((0 : Nat) : Int)) = false := rfl
      clear e1 n hmod hlen hz
      go_wp2
      go_quiet (fail)
      go_wp2
      exact bodyPost_end (v := .tuple #[]) (by simp [results, Tryd.results99, go_sem]) rfl ⟨⟨_, rfl⟩, _, (unhide NN).kept ((Kept.refl 0 0 _).drewN _), unhide ho, (unhide MM).drewN _, (unhide SS).drewN _⟩
    · obtain ⟨gb, off, cap, hv, hle, hxz, hfz, hgb, -⟩ := n.at (m - 1) (by omega)
      rw [hlen] at hv hle
      subst hv
      have hce := n.cell
      have hz1 : (zs.take m).getD (m - 1) 0 = zs.getD (m - 1) 0 := by
        simp only [List.getD, List.getElem?_take]
        rw [if_pos (by omega)]
      rw [hz1] at hxz
      have hpos : (0 : Int) < (m : Int) := by omega
      have hposN : 0 < m := by omega
      have h1m : (1 : Int) ≤ (m : Int) := by omega
      have hcap : (m : Int) - 1 ≤ (cap : Int) := by omega
      have ew : IntKind.i64.wrap ((m : Int) - 1) = (m : Int) - 1 := wrap_small _ (by omega) (by omega)
      have et : ((m : Int) - 1).toNat = m - 1 := by omega
      have hi0 : (0 : Int) ≤ (m : Int) - 1 := by omega
      have hi1 : (m : Int) - 1 < (m : Int) := by omega
      have hz1' : ∀ z, zs.getD (m - 1) 0 = z → (z = 0 → ∀ i, m - 1 ≤ i → i < zs.length → zs.getD i 0 = 0) ∧ (z ≠ 0 → zs.take m = limbs (val zs).toNat) := by
        intro z e
        refine ⟨fun e0 i h1 h2 => ?_, fun e0 => take_limbs zs (unhide HL) m (by omega) (unhide hz) (.inr (by rw [e]; exact e0))⟩
        by_cases h3 : i = m - 1
        · rw [h3, e, e0]
        · exact unhide hz i (by omega) h2
      generalize zs.getD (m - 1) 0 = zl at *
      obtain ⟨hza, hzb⟩ := hz1' zl rfl
      clear hz1' hz
      by_cases hzz : zl = 0
      · subst hzz
        have HZ := hide (hza rfl)
        have NC := hide (fun k => (n.kept ((Kept.refl 0 0 _).drewN k)).cut (m - 1) (by omega))
        have MC := hide (fun k => (hmod.drewN k).set (p := ⟨g, 0, none⟩) (.inl rfl) (.slice (some ⟨gb, off, none⟩) (m - 1) cap))
        have e1 : (zs.take m).take (m - 1) = zs.take (m - 1) := by rw [List.take_take, Nat.min_eq_left (by omega)]
        have E1 := hide e1
        clear hza hzb n hmod hlen e1
        go_wp2
        go_quiet (fail)
        go_wp2
        go_region
        go_wp2
        go_roundw
        case rel => exact ⟨m - 1, .slice (some ⟨gb, off, none⟩) (m - 1) cap, by omega, HZ, by rw [← unhide E1]; exact unhide NC _, hide (unhide ho), unhide MC _, ((unhide SS).drewN _).set0 _⟩
        case measure => rw [lenAt_of hce, lenAt_of (unhide NC _).cell]; omega
      · have e1 := hzb hzz
        rw [e1] at n
        have NN := hide n
        have MM := hide hmod
        have hb : (zl == 0) = false := beq_eq_false_iff_ne.2 hzz
        clear e1 n hmod hlen hza hzb
        go_wp2
        go_quiet (fail)
        go_wp2
        exact bodyPost_end (v := .tuple #[]) (by simp [results, Tryd.results99, go_sem]) rfl ⟨⟨_, rfl⟩, _, (unhide NN).kept ((Kept.refl 0 0 _).drewN _), unhide ho, (unhide MM).drewN _, (unhide SS).drewN _⟩

set_option maxHeartbeats 8000000 in
theorem shiftDown_wrk {b g : Nat} {v : Value} {xs : List Int} (w : World) (h : Wrk b w g v xs) (hx : Lim xs) (nx : xs.length ≤ 100000) (k : Nat) (hk : (k : Int) ≤ 9223372036854775807) :
    Calls Tryd.prog 68 #[.pointer (some ⟨g, 0, none⟩), .int .i64 (k : Int)] w fun e w' => (∃ r, e = .returned r) ∧ ∃ u, Wrk b w' g u (limbs ((val xs).toNat / 2 ^ k)) ∧ u.ownBlock = v.ownBlock ∧ Mod (Own1 g v) w w' ∧ SameSide g w w' := by
  obtain ⟨q, s, hs, rfl⟩ : ∃ q s : Nat, s < 16 ∧ k = 16 * q + s := ⟨k / 16, k % 16, by omega, by omega⟩
  obtain ⟨K, hK⟩ : ∃ K : Int, K = ((16 * q + s : Nat) : Int) := ⟨_, rfl⟩
  have e3 : K.tdiv 16 = (q : Int) := by rw [Int.tdiv_eq_ediv_of_nonneg (by omega)]; omega
  have e4 : K.tmod 16 = (s : Int) := by rw [Int.tmod_eq_emod_of_nonneg (by omega)]; omega
  have hq63 : (q : Int) ≤ 9223372036854775807 := by omega
  have hKK : 0 ≤ K ∧ K ≤ 9223372036854775807 := by omega
  rw [← hK]
  generalize hA : (val xs).toNat / 2 ^ (16 * q + s) = A
  have HA := hide hA
  clear hK hA hk
  have hlt := h.lt
  have hce := h.cell
  have hlo := h.loose
  have hs0 : ¬ ((s : Int) < 0) := by omega
  have hs64 : (s : Int) < 64 := by omega
  by_cases hqn : q < xs.length
  · have hmin : min (q : Int) (xs.length : Int) = (q : Int) := by omega
    obtain ⟨gb, off, cap, hv, -⟩ := h.at q hqn
    subst hv
    have hm := h.row
    obtain ⟨a', c', e', hm1, hm2, -⟩ := hm
    cases e'
    have hq1 : (q : Int) ≤ (xs.length : Int) := by omega
    have hq2 : (xs.length : Int) ≤ (cap : Int) := by omega
    have hcq : ¬ cap = q := by omega
    obtain ⟨m, hm⟩ : ∃ m, m = xs.length - q := ⟨_, rfl⟩
    obtain ⟨Y, hY⟩ : ∃ Y, Y = xs.drop q := ⟨_, rfl⟩
    have hYl : Y.length = m := by rw [hY, hm]; simp
    have hYx : Lim Y := by rw [hY]; exact hx.drop q
    have hgb : b ≤ gb := (h.own.lt (k := gb) rfl).1
    have wl := (h.tail q rfl hqn).kept (Kept.refl 0 0 _).drew
    have ml := ((Mod.refl (Own1 g (.slice (some ⟨gb, off, none⟩) xs.length cap)) w).set (p := ⟨g, 0, none⟩) (.inl (.inl rfl)) (.slice (some ⟨gb, off + q, none⟩) m (cap - q))).kept (Kept.refl 0 0 _).drew
    rw [← hm, ← hY] at wl
    have HM := hide hm
    have hAv : Hid (limbs (val (sdn ((2 ^ s : Nat) : Int) Y)).toNat = limbs A) := by
      show _ = _
      rw [sdn_val s (by omega) hYx, hY, shr_val hx q s (by omega), unhide HA]
    have WL := hide wl
    have ML := hide ml
    have hap := h.apart
    have hgne : gb ≠ g := fun e => hap (by rw [e]; rfl)
    clear hap
    have hm63 : (m : Int) ≤ 100000 := by omega
    clear h hm1 hm2 HA hY wl ml hm
    go_enter Tryd.func68, Tryd.ntmps68
    go_wp2
    go_region
    rw [← unhide HM]
    have wl := unhide WL
    have ml := unhide ML
    have sl : SameSide g w (w.setCell ⟨g, 0, none⟩ (.slice (some ⟨gb, off + q, none⟩) m (cap - q))).drew := (SameSide.refl g w).set0 _
    have SL := hide sl
    clear sl
    generalize (w.setCell ⟨g, 0, none⟩ (.slice (some ⟨gb, off + q, none⟩) m (cap - q))).drew = W at *
    have hce5 := wl.cell
    clear hce hlo WL ML
    go_wp2
    clear hce5
    go_loopw [32] (fun ii wr => ∃ i : Nat, ii = .int .i64 (i : Int) ∧ i ≤ m ∧ Wrk b wr g (.slice (some ⟨gb, off + q, none⟩) m (cap - q)) ((sdn ((2 ^ s : Nat) : Int) Y).take i ++ Y.drop i) ∧ Mod (Own1 g (.slice (some ⟨gb, off, none⟩) xs.length cap)) w wr ∧ SameSide g w wr) (fun ii _ => m - (intOf ii).toNat)
    case atStart => exact ⟨0, rfl, Nat.zero_le _, by simpa using wl, ml, unhide SL⟩
    case round =>
      clear wl ml SL
      obtain ⟨i, rfl, hi, wk, md, sd⟩ := hrel
      have SD := hide sd
      clear sd
      have hsl := sdn_length ((2 ^ s : Nat) : Int) Y
      have hlen : ((sdn ((2 ^ s : Nat) : Int) Y).take i ++ Y.drop i).length = m := by rw [sdn_len _ _ _ (by omega)]; exact hYl
      by_cases hB : i < m
      · have hcc := wk.cell
        obtain ⟨g1, off5, c5, e5, -, hx1, hf1, hg1, -⟩ := wk.at i (by omega)
        rw [hlen] at e5
        cases e5
        rw [sdn_mix _ _ _ _ (Nat.le_refl _) (by omega)] at hx1
        have hat := fun n => at_work _ (wk.kept ((Kept.refl 0 0 wr).drewN n)).work (i + 1) (by omega)
        rw [sdn_mix _ _ _ _ (by omega) (by omega)] at hat
        have hput := fun n => (wk.kept ((Kept.refl 0 0 wr).drewN n)).put i hlen.symm hB ((sdn ((2 ^ s : Nat) : Int) Y).getD i 0)
        rw [sdn_put _ _ _ (by omega)] at hput
        have hmd := fun n u => ((md.drewN n).set (p := ⟨gb, off + q + i, none⟩) (.inl (.inr rfl)) u)
        have hv := sdn_at ((2 ^ s : Nat) : Int) Y i (by omega)
        have h0 := hYx.at i
        have h1 := hYx.at (i + 1)
        generalize Y.getD i 0 = y0 at *
        generalize Y.getD (i + 1) 0 = y1 at *
        have ep : ((2 ^ s : Nat) : Int) = (2 : Int) ^ s := by simp
        rw [ep] at hv
        have hv2 : ((y1 * 65536 + y0) / 2 ^ s).tmod 65536 = (sdn ((2 ^ s : Nat) : Int) Y).getD i 0 := by
          rw [ep, Int.tmod_eq_emod_of_nonneg (Int.ediv_nonneg (by omega) (Int.le_of_lt (Int.pow_pos (by decide))))]
          rw [ep] at *
          exact hv.symm
        generalize (sdn ((2 ^ s : Nat) : Int) Y).getD i 0 = zi at *
        have HAT := hide hat
        have HPUT := hide hput
        have HV2 := hide hv2
        have HMD := hide hmd
        have hi2 : (i : Int) < (m : Int) := by omega
        have hwi : IntKind.i64.wrap ((i : Int) + 1) = (i : Int) + 1 := wrap_small _ (by omega) (by omega)
        have hb0 : 0 ≤ y1 * 65536 + y0 ∧ y1 * 65536 + y0 ≤ 4294967295 := by omega
        have hb1 : 0 ≤ y1 * 65536 ∧ y1 * 65536 ≤ 4294967295 := by omega
        have hw1 : IntKind.i64.wrap (y1 * 65536) = y1 * 65536 := wrap_small _ (by omega) (by omega)
        have hw2 : IntKind.i64.wrap (y1 * 65536 + y0) = y1 * 65536 + y0 := wrap_small _ (by omega) (by omega)
        clear hat hput hmd hv hv2 wk md hlen hsl ep
        go_wp2
        go_region_law (refine step_call_pure rfl 98 (.tmp 42) (.tmp 44) _ rfl (at_enter _) _ _ _ (by simp [Act.eval, Act.put]) (by simp [Act.eval, Act.put, hwi]) (unhide HAT 1) ?_)
        all_goals
          rw [unhide HV2]
          go_wp2
          go_roundw
          case rel => exact ⟨i + 1, by go_num, by omega, unhide HPUT 1, unhide HMD 1 _, ((unhide SD).drewN 1).far hgne _⟩
          case measure => simp [intOf]; omega
      · have hi2 : ¬ (i : Int) < (m : Int) := by omega
        have him : i = m := by omega
        rw [him, List.take_of_length_le (by omega), List.drop_of_length_le (by omega), List.append_nil] at wk
        clear hlen hsl him
        go_wp2_with fail
        refine (trim_wrk _ wk (sdn_lim _ _)).mono ?_
        rintro e w6 ⟨⟨r6, rfl⟩, u6, n6, o6, m6, sd6⟩
        rw [unhide hAv] at n6
        have N6 := hide n6
        have O6 := hide o6
        clear o6
        have M6 := hide (md.then m6 (fun i e => .inl (.inl e)))
        have S6 := hide ((unhide SD).trans sd6)
        clear n6 m6 wk md sd6
        go_wp2
        exact bodyPost_end (v := .tuple #[]) (by simp [results, Tryd.results68, go_sem]) rfl ⟨⟨_, rfl⟩, _, unhide N6, unhide O6, unhide M6, unhide S6⟩
  · have hle : (xs.length : Int) ≤ (q : Int) := by omega
    have hA0 : A = 0 := by
      rw [← unhide HA]
      have e1 := val_lt hx
      have e2 := val_nonneg hx
      rw [pow_limb] at e1
      refine Nat.div_eq_of_lt (Nat.lt_of_lt_of_le (m := 2 ^ (16 * xs.length)) (by omega) (Nat.pow_le_pow_right (by decide) (by omega)))
    rw [hA0, limbs_zero]
    obtain ⟨a1, c1, hv⟩ := h.form
    subst hv
    have hm := h.row
    obtain ⟨a', c', e', hm1, hm2, -⟩ := hm
    cases e'
    have hcap : (xs.length : Int) ≤ (c1 : Int) := by omega
    have hmin : min (q : Int) (xs.length : Int) = (xs.length : Int) := by omega
    have ol := own_lost a1 c1 xs.length 0 (c1 - xs.length)
    have OL := hide ol
    clear ol
    have WL := hide (h.lost.kept (Kept.refl 0 0 _).drew)
    have MM := hide (fun (u : Value) => ((Mod.refl (Own1 g (.slice a1 xs.length c1)) w).set (p := ⟨g, 0, none⟩) (.inl (.inl rfl)) u).kept (Kept.refl 0 0 _).drew)
    clear h hm1 hm2 HA hA0
    go_enter Tryd.func68, Tryd.ntmps68
    go_wp2
    go_region
    generalize (if c1 = xs.length then a1 else Option.map (fun x => x.add xs.length) a1) = a5 at *
    have wl := unhide WL
    have ml := unhide MM (.slice a5 0 (c1 - xs.length))
    have sl : SameSide g w (w.setCell ⟨g, 0, none⟩ (.slice a5 0 (c1 - xs.length))).drew := (SameSide.refl g w).set0 _
    have SL := hide sl
    clear sl
    generalize (w.setCell ⟨g, 0, none⟩ (.slice a5 0 (c1 - xs.length))).drew = W at *
    have hce5 := wl.cell
    clear hce hlo
    go_wp2
    go_loopw [32] (fun ii wr => ii = .int .i64 0 ∧ wr = W) (fun _ _ => 0)
    case atStart => exact ⟨rfl, rfl⟩
    case round =>
      obtain ⟨rfl, rfl⟩ := hrel
      clear hce5
      go_wp2_with fail
      refine (trim_wrk _ wl Lim.nil).mono ?_
      rintro e w6 ⟨⟨r6, rfl⟩, u6, n6, o6, m6, sd6⟩
      have N6 := hide n6
      have O6 := hide (o6.trans (unhide OL))
      clear o6
      have M6 := hide (ml.then m6 (fun i e => .inl (.inl e)))
      have S6 := hide ((unhide SL).trans sd6)
      clear sd6
      clear n6 m6 wl ml
      go_wp2
      exact bodyPost_end (v := .tuple #[]) (by simp [results, Tryd.results68, go_sem]) rfl ⟨⟨_, rfl⟩, _, unhide N6, unhide O6, unhide M6, unhide S6⟩

end Go.Proofs.YtpdgajfkhjdgaaaDoor
