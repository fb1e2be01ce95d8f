/-
  The program's shiftDown by less than a limb, whose number stays a number of the call's own; what the rounds of a division keep.
-/
import Derived.Test.YtpeaghaojfbbnaaIDiv3
import Derived.Test.YtpeaghaojfbbnaaINat20
import Derived.Test.YtpeaghaojfbbnaaBI
import Derived.Test.YtpeaghaojfbbnaaBF
import Derived.Test.YtpeaghaojfbbnaaBH
namespace Go.Proofs.Ytpeaghaojfbbnaa
open Go.RowKit
set_option linter.unusedVariables false
set_option maxRecDepth 8000
set_option linter.unusedSimpArgs false

theorem Num.same {b g : Nat} {w : World} {v : Value} {xs : List Int} (h : Num b w g v xs) : Num b (w.setCell ⟨g, 0, none⟩ v) g v xs :=
  ⟨cell_on _ _ _ _ _ h.cell, by rw [frozen_set]; exact h.loose, own_apart h.own (p := ⟨g, 0, none⟩) (fun e => h.apart e) _, h.apart⟩

set_option maxHeartbeats 8000000 in
theorem shiftDown_num {b g : Nat} {v : Value} {xs : List Int} (w : World) (h : Num b w g v xs) (hx : Lim xs) (hne : 0 < xs.length) (nx : xs.length ≤ 100000) (s : Nat) (hs : s < 16) :
    Calls Try.prog 46 #[.pointer (some ⟨g, 0, none⟩), .int .i64 (s : Int)] w fun e w' => (∃ r, e = .returned r) ∧ ∃ u, Num b w' g u (limbs ((val xs).toNat / 2 ^ s)) ∧ u.ownBlock = v.ownBlock ∧ Mod (Own1 g v) w w' ∧ SameSide g w w' := by
  obtain ⟨K, hK⟩ : ∃ K : Int, K = (s : Int) := ⟨_, rfl⟩
  have e3 : K.tdiv 16 = 0 := by rw [Int.tdiv_eq_ediv_of_nonneg (by omega)]; omega
  have e4 : K.tmod 16 = (s : Int) := by rw [Int.tmod_eq_emod_of_nonneg (by omega)]; omega
  have hKK : 0 ≤ K ∧ K ≤ 9223372036854775807 := by omega
  rw [← hK]
  generalize hA : (val xs).toNat / 2 ^ s = A
  have HA := hide hA
  clear hK hA
  have hce := h.cell
  have hlo := h.loose
  have hs0 : ¬ ((s : Int) < 0) := by omega
  have hs64 : (s : Int) < 64 := by omega
  obtain ⟨m, hm⟩ : ∃ m, m = xs.length := ⟨_, rfl⟩
  have hmin : min (0 : Int) (m : Int) = 0 := by omega
  obtain ⟨gb, cap, hv, -⟩ := h.at 0 hne
  rw [← hm] at hv
  subst hv
  have hq2 : (m : Int) ≤ (cap : Int) := by obtain ⟨a', c', e', hm1, hm2, -⟩ := h.row; cases e'; omega
  have hcq : ¬ cap = 0 := by omega
  have wl := h.same.kept (Kept.refl 0 0 _).drew
  have ml := ((Mod.refl (Own1 g (.slice (some ⟨gb, 0, none⟩) m cap)) w).set (p := ⟨g, 0, none⟩) (.inl (.inl rfl)) (.slice (some ⟨gb, 0, none⟩) m cap)).kept (Kept.refl 0 0 _).drew
  have hAv : Hid (limbs (val (sdn ((2 ^ s : Nat) : Int) xs)).toNat = limbs A) := by
    show _ = _
    rw [sdn_val s (by omega) hx, ← unhide HA]
    have := val_nonneg hx
    generalize val xs = X at *
    congr 1
    obtain ⟨N, rfl⟩ : ∃ N : Nat, X = (N : Int) := ⟨X.toNat, by omega⟩
    rw [← Int.natCast_ediv, Int.toNat_natCast, Int.toNat_natCast]
  have sl : SameSide g w (w.setCell ⟨g, 0, none⟩ (.slice (some ⟨gb, 0, none⟩) m cap)).drew := ((SameSide.refl g w).set0 _).drewN 1
  have hgg : gb ≠ g := fun e => h.apart (by rw [← e]; rfl)
  have WL := hide wl
  have SL := hide sl
  have ML := hide ml
  have HM := hide hm
  have hm63 : (m : Int) ≤ 100000 := by omega
  clear h HA wl ml sl hm hne nx
  go_enter Try.func46, Try.ntmps46
  go_wp2
  go_region
  have wl := unhide WL
  have ml := unhide ML
  have sl := unhide SL
  generalize (w.setCell ⟨g, 0, none⟩ (.slice (some ⟨gb, 0, none⟩) m cap)).drew = W at *
  have hce5 := wl.cell
  clear hce hlo WL ML SL
  go_wp2
  clear hce5
  go_loopw [32] (fun ii wr => ∃ i : Nat, ii = .int .i64 (i : Int) ∧ i ≤ m ∧ Num b wr g (.slice (some ⟨gb, 0, none⟩) m cap) ((sdn ((2 ^ s : Nat) : Int) xs).take i ++ xs.drop i) ∧ Mod (Own1 g (.slice (some ⟨gb, 0, none⟩) m cap)) w wr ∧ SameSide g w wr) (fun ii _ => m - (intOf ii).toNat)
  case atStart => exact ⟨0, rfl, Nat.zero_le _, by simpa using wl, ml, sl⟩
  case round =>
    clear wl ml sl
    obtain ⟨i, rfl, hi, wk, md, sd⟩ := hrel
    have SD := hide sd
    clear sd
    have hYl := (unhide HM).symm
    have hsl := sdn_length ((2 ^ s : Nat) : Int) xs
    have hlen : ((sdn ((2 ^ s : Nat) : Int) xs).take i ++ xs.drop i).length = m := by rw [sdn_len _ _ _ (by omega)]; exact hYl
    by_cases hB : i < m
    · have hcc := wk.cell
      obtain ⟨g1, c5, e5, hx1, hf1, hg1⟩ := wk.at i (by omega)
      rw [hlen] at e5
      cases e5
      rw [sdn_mix _ _ _ _ (Nat.le_refl _) (by omega)] at hx1
      have hat := fun n => at_work _ (wk.kept ((Kept.refl 0 0 wr).drewN n)).work (i + 1) (by omega)
      rw [sdn_mix _ _ _ _ (by omega) (by omega)] at hat
      have hput := fun n => (wk.kept ((Kept.refl 0 0 wr).drewN n)).put (j := i) hlen.symm ((sdn ((2 ^ s : Nat) : Int) xs).getD i 0)
      rw [sdn_put _ _ _ (by omega)] at hput
      have hmd := fun n u => ((md.drewN n).set (p := ⟨gb, i, none⟩) (.inl (.inr rfl)) u)
      have hv := sdn_at ((2 ^ s : Nat) : Int) xs i (by omega)
      have h0 := hx.at i
      have h1 := hx.at (i + 1)
      generalize xs.getD i 0 = y0 at *
      generalize xs.getD (i + 1) 0 = y1 at *
      have ep : ((2 ^ s : Nat) : Int) = (2 : Int) ^ s := by simp
      rw [ep] at hv
      have hv2 : ((y1 * 65536 + y0) / 2 ^ s).tmod 65536 = (sdn ((2 ^ s : Nat) : Int) xs).getD i 0 := by
        rw [ep, Int.tmod_eq_emod_of_nonneg (Int.ediv_nonneg (by omega) (Int.le_of_lt (Int.pow_pos (by decide))))]
        rw [ep] at *
        exact hv.symm
      generalize (sdn ((2 ^ s : Nat) : Int) xs).getD i 0 = zi at *
      have HAT := hide hat
      have HPUT := hide hput
      have HV2 := hide hv2
      have HMD := hide hmd
      have hi2 : (i : Int) < (m : Int) := by omega
      have hwi : IntKind.i64.wrap ((i : Int) + 1) = (i : Int) + 1 := wrap_small _ (by omega) (by omega)
      have hb0 : 0 ≤ y1 * 65536 + y0 ∧ y1 * 65536 + y0 ≤ 4294967295 := by omega
      have hb1 : 0 ≤ y1 * 65536 ∧ y1 * 65536 ≤ 4294967295 := by omega
      have hw1 : IntKind.i64.wrap (y1 * 65536) = y1 * 65536 := wrap_small _ (by omega) (by omega)
      have hw2 : IntKind.i64.wrap (y1 * 65536 + y0) = y1 * 65536 + y0 := wrap_small _ (by omega) (by omega)
      clear hat hput hmd hv hv2 wk md hlen hsl ep hYl
      go_wp2
      go_region_law (refine step_call_pure rfl 48 (.tmp 42) (.tmp 44) _ rfl (at_enter _) _ _ _ (by simp [Act.eval, Act.put]) (by simp [Act.eval, Act.put, hwi]) (unhide HAT 1) ?_)
      all_goals
        rw [unhide HV2]
        go_wp2
        go_roundw
        case rel => exact ⟨i + 1, by go_num, by omega, unhide HPUT 1, unhide HMD 1 _, ((unhide SD).drewN 1).far hgg _⟩
        case measure => simp [intOf]; omega
    · have hi2 : ¬ (i : Int) < (m : Int) := by omega
      have him : i = m := by omega
      rw [him, List.take_of_length_le (by omega), List.drop_of_length_le (by omega), List.append_nil] at wk
      clear hlen hsl him hYl
      go_wp2_with fail
      refine (trim_side _ wk (sdn_lim _ _)).mono ?_
      rintro e w6 ⟨⟨r6, rfl⟩, u6, n6, o6, m6, s6⟩
      have S6 := hide ((unhide SD).trans s6)
      rw [unhide hAv] at n6
      have N6 := hide n6
      have O6 := hide o6
      have M6 := hide (md.then m6 (fun i e => .inl (.inl e)))
      clear n6 m6 wk md o6 s6
      go_wp2
      exact bodyPost_end (v := .tuple #[]) (by simp [results, Try.results46, go_sem]) rfl ⟨⟨_, rfl⟩, _, unhide N6, unhide O6, unhide M6, unhide S6⟩

end Go.Proofs.Ytpeaghaojfbbnaa
