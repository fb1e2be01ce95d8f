/-
  Contracts that the proofs of this seat share: IShS, INat26, IWh2, IWh3.
-/
import Derived.Test.YtfikfmkhmojpfaaBH
import Derived.Test.YtfikfmkhmojpfaaINat20
import Derived.Test.YtfikfmkhmojpfaaBC
import Derived.Deep.QuietTactic
import Derived.BigQuiet
import Derived.BigRegion
import Derived.Deep.DeepCutAuto
namespace Go.Proofs.Ytfikfmkhmojpfaa
open Go.RowKit
set_option linter.unusedVariables false
set_option maxRecDepth 8000
set_option linter.unusedSimpArgs false

set_option maxHeartbeats 4000000 in
theorem trim_workS {b g : Nat} {v : Value} {zs : List Int} (w : World) (h : Work b w g v zs) (hl : Lim zs) :
    Calls Try.prog 107 #[.pointer (some ⟨g, 0, none⟩)] w fun e w' => (∃ r, e = .returned r) ∧ ∃ u, Work b w' g u (limbs (val zs).toNat) ∧ Mod (fun i => i = g) w w' ∧ SameSide g w w' := by
  have hm := h.row.len
  unfold maxLen at hm
  have HL := hide hl
  clear hl
  go_enter Try.func107, Try.ntmps107
  go_wp2
  go_loopw [] (fun wr => ∃ (m : Nat) (u : Value), m ≤ zs.length ∧ Hid (∀ i, m ≤ i → i < zs.length → zs.getD i 0 = 0) ∧ Work b wr g u (zs.take m) ∧ Mod (fun i => i = g) w wr ∧ SameSide g w wr) (fun wr => lenAt wr g)
  case atStart => exact ⟨zs.length, v, Nat.le_refl _, hide (fun i h1 h2 => by omega), by rw [List.take_length]; exact h, Mod.refl _ _, SameSide.refl _ _⟩
  case round =>
    clear h
    obtain ⟨m, u, hmz, hz, n, hmod, hsd⟩ := hrel
    have SS := hide hsd
    clear hsd
    have hlen : (zs.take m).length = m := by simp; omega
    have hlo := n.loose
    by_cases h0 : m = 0
    · subst h0
      obtain ⟨a1, c1, hv⟩ := n.form
      rw [hlen] at hv
      subst hv
      have hce := n.cell
      have e1 := take_limbs zs (unhide HL) 0 (by omega) (unhide hz) (.inl rfl)
      rw [e1] at n
      have NN := hide n
      have MM := hide hmod
      have hd : decide ((0 : Int) < ((0 : Nat) : Int)) = false := rfl
      clear e1 n hmod hlen hz
      go_wp2
      go_quiet (fail)
      go_wp2
      exact bodyPost_end (v := .tuple #[]) (by simp [results, Try.results107, go_sem]) rfl ⟨⟨_, rfl⟩, _, (unhide NN).kept ((Kept.refl 0 0 _).drewN _), (unhide MM).drewN _, (unhide SS).drewN _⟩
    · obtain ⟨gb, off, cap, hv, hle, hxz, hfz, hgb, -⟩ := n.at (m - 1) (by omega)
      rw [hlen] at hv hle
      subst hv
      have hce := n.cell
      have hz1 : (zs.take m).getD (m - 1) 0 = zs.getD (m - 1) 0 := by
        simp only [List.getD, List.getElem?_take]
        rw [if_pos (by omega)]
      rw [hz1] at hxz
      have hpos : (0 : Int) < (m : Int) := by omega
      have hposN : 0 < m := by omega
      have h1m : (1 : Int) ≤ (m : Int) := by omega
      have hcap : (m : Int) - 1 ≤ (cap : Int) := by omega
      have ew : IntKind.i64.wrap ((m : Int) - 1) = (m : Int) - 1 := wrap_small _ (by omega) (by omega)
      have et : ((m : Int) - 1).toNat = m - 1 := by omega
      have hi0 : (0 : Int) ≤ (m : Int) - 1 := by omega
      have hi1 : (m : Int) - 1 < (m : Int) := by omega
      have hz1' : ∀ z, zs.getD (m - 1) 0 = z → (z = 0 → ∀ i, m - 1 ≤ i → i < zs.length → zs.getD i 0 = 0) ∧ (z ≠ 0 → zs.take m = limbs (val zs).toNat) := by
        intro z e
        refine ⟨fun e0 i h1 h2 => ?_, fun e0 => take_limbs zs (unhide HL) m (by omega) (unhide hz) (.inr (by rw [e]; exact e0))⟩
        by_cases h3 : i = m - 1
        · rw [h3, e, e0]
        · exact unhide hz i (by omega) h2
      generalize zs.getD (m - 1) 0 = zl at *
      obtain ⟨hza, hzb⟩ := hz1' zl rfl
      clear hz1' hz
      by_cases hzz : zl = 0
      · subst hzz
        have HZ := hide (hza rfl)
        have NC := hide (fun k => (n.kept ((Kept.refl 0 0 _).drewN k)).cut (m - 1) (by omega))
        have MC := hide (fun k => (hmod.drewN k).set (p := ⟨g, 0, none⟩) (.inl rfl) (.slice (some ⟨gb, off, none⟩) (m - 1) cap))
        have e1 : (zs.take m).take (m - 1) = zs.take (m - 1) := by rw [List.take_take, Nat.min_eq_left (by omega)]
        have E1 := hide e1
        clear hza hzb n hmod hlen e1
        go_wp2
        go_quiet (fail)
        go_wp2
        go_region
        go_wp2
        go_roundw
        case rel => exact ⟨m - 1, .slice (some ⟨gb, off, none⟩) (m - 1) cap, by omega, HZ, by rw [← unhide E1]; exact unhide NC _, unhide MC _, ((unhide SS).drewN _).set0 _⟩
        case measure => rw [lenAt_of hce, lenAt_of (unhide NC _).cell]; omega
      · have e1 := hzb hzz
        rw [e1] at n
        have NN := hide n
        have MM := hide hmod
        have hb : (zl == 0) = false := beq_eq_false_iff_ne.2 hzz
        clear e1 n hmod hlen hza hzb
        go_wp2
        go_quiet (fail)
        go_wp2
        exact bodyPost_end (v := .tuple #[]) (by simp [results, Try.results107, go_sem]) rfl ⟨⟨_, rfl⟩, _, (unhide NN).kept ((Kept.refl 0 0 _).drewN _), (unhide MM).drewN _, (unhide SS).drewN _⟩

set_option maxHeartbeats 8000000 in
theorem shiftUp_S {b g : Nat} {v : Value} {xs : List Int} (w : World) (h : Num b w g v xs) (hx : Lim xs) (hne : xs ≠ []) (nx : xs.length ≤ 50000) (k : Nat) (hk : k ≤ 800000) :
    Calls Try.prog 90 #[.pointer (some ⟨g, 0, none⟩), .int .i64 (k : Int)] w fun e w' => (∃ r, e = .returned r) ∧ ∃ u, Num w.heap.size w' g u (limbs ((val xs).toNat * 2 ^ k)) ∧ Mod (fun i => i = g) w w' ∧ SameSide g w w' := by
  obtain ⟨q, s, hs, rfl⟩ : ∃ q s : Nat, s < 16 ∧ k = 16 * q + s := ⟨k / 16, k % 16, by omega, by omega⟩
  obtain ⟨K, hK⟩ : ∃ K : Int, K = ((16 * q + s : Nat) : Int) := ⟨_, rfl⟩
  have e3 : K.tdiv 16 = (q : Int) := by rw [Int.tdiv_eq_ediv_of_nonneg (by omega)]; omega
  have e4 : K.tmod 16 = (s : Int) := by rw [Int.tmod_eq_emod_of_nonneg (by omega)]; omega
  have hq63 : q ≤ 50000 := by omega
  have hKK : 0 ≤ K ∧ K ≤ 800000 := by omega
  rw [← hK]
  obtain ⟨M, hM⟩ : ∃ M, M = xs.length := ⟨_, rfl⟩
  obtain ⟨T, hT⟩ : ∃ T, T = q + M + 1 := ⟨_, rfl⟩
  have hM0 : 0 < M := by rw [hM]; exact List.length_pos_iff.2 hne
  have htot := shl_total xs hx q s
  generalize hA : (val xs).toNat * 2 ^ (16 * q + s) = A at *
  obtain ⟨D, hD⟩ : ∃ D : Int, D = ((2 ^ s : Nat) : Int) := ⟨_, rfl⟩
  rw [← hD] at htot
  have hDp : 0 < D := by rw [hD]; have := Nat.pow_pos (n := s) (show 0 < 2 by decide); omega
  have hDE : D * ((2 ^ (16 - s) : Nat) : Int) = 65536 := by
    rw [hD, ← Int.natCast_mul, ← Nat.pow_add, show s + (16 - s) = 16 by omega]; rfl
  have hDm : D ≤ 65536 := by
    rw [hD]; have := Nat.pow_le_pow_right (n := 2) (by decide) (show s ≤ 16 by omega); omega
  have HTOT := hide htot
  have HDE := hide hDE
  have ep : (2 : Int) ^ s = D := by rw [hD]; simp
  obtain ⟨a1, c1, hv1⟩ := h.form
  rw [← hM] at hv1
  subst hv1
  have hnx : M ≤ 50000 := by omega
  have HM := hide hM
  have HT := hide hT
  have hTT : (q : Int) + (M : Int) + 1 = (T : Int) := by omega
  have hnT : T ≤ 100001 := by omega
  have HA1 := hide ((row_cell h.row).2.2.2)
  have N1 := hide h
  have hz := isZero_impl w h
  rw [decide_eq_false (by omega)] at hz
  have HZ := hide hz
  obtain ⟨i0, hi0, hz0, hz1, hz2⟩ := info_parts Try.info3'
  obtain ⟨w2, hrun, hown2, hgrow2⟩ := run_make_full (P := Try.prog) w w.heap.size 22 3 i0 (.int .i64 0) 1 Try.underlying22 hi0 hz0 hz1 .i64 .i64 T (by rw [hz2]; omega) (by unfold maxLen; omega) (Nat.le_refl _)
  have hf0 := made_fresh (Kept.refl 0 0 w) hown2 hgrow2
  have HF := hide hf0
  have hce1 := hf0.k.cell0 h.cell
  have hce1w := h.cell
  obtain ⟨G, hG0⟩ : ∃ G, G = w.heap.size := ⟨_, rfl⟩
  rw [← hG0] at hrun HF
  have hs0 : ¬ ((s : Int) < 0) := by omega
  have hs64 : (s : Int) < 64 := by omega
  have HEP := hide ep
  clear hown2 hgrow2 hf0 hG0 hi0 hz0 hz1 hz2 htot hDE hD h hz hK hA hT hM nx hne hk ep
  go_enter Try.func90, Try.ntmps90
  go_wp2_with (go_at_call 69; refine (unhide HZ).mono ?_; rintro e w' ⟨rfl, rfl⟩)
  clear hrun hce1 hce1w
  go_loopw [30] (fun ii wr => ∃ (zs : List Int) (i : Nat), ii = .int .i64 (i : Int) ∧ i ≤ M ∧ zs.length = T ∧ Lim zs ∧ Hid (zs.getD (q + i) 0 ≤ D - 1) ∧ Hid (∀ p, q + i < p → zs.getD p 0 = 0) ∧ Hid (val zs = 65536 ^ q * (val (xs.take i) * D)) ∧ Fresh w' wr (.slice (some ⟨G, 0, none⟩) T T) zs) (fun ii _ => M - (intOf ii).toNat)
  case atStart => exact ⟨List.replicate T 0, 0, rfl, Nat.zero_le _, by simp, Lim.zeros T, by show _ ≤ _; have := Bnd.zeros T (q + 0); omega, fun p _ => by have := Bnd.zeros T p; omega, by show _ = _; rw [val_zeros]; simp [val], unhide HF⟩
  case round =>
    clear HF
    obtain ⟨zs, i, rfl, hi, hs', hlz, hc, hp, hV, hf⟩ := hrel
    by_cases hA : i < M
    · have hi1 : (i : Int) < (M : Int) := by omega
      have hx0 := hx.at i
      obtain ⟨gA, oA, rfl, x1⟩ := unhide HA1 i (by have := unhide HM; omega)
      replace x1 := hf.k.cell0 x1
      have hik : q + i + 1 < T := by have := unhide HT; omega
      obtain ⟨y1, y2⟩ := hf.at hs'.symm (q + i) (by omega)
      obtain ⟨y3, y4⟩ := hf.at hs'.symm (q + i + 1) hik
      have hz1 := unhide hp (q + i + 1) (by omega)
      rw [hz1] at y3
      have hsl := shl_limb hDp (unhide HDE) hx0
      have hput := shl_put zs xs q i D _ (by rw [← unhide HM]; exact hA) (by omega) rfl hz1 (unhide hV)
      have hzc := hlz.at (q + i)
      have hcc := unhide hc
      generalize hva : xs.getD i 0 = va at *
      generalize hvz : zs.getD (q + i) 0 = vz at *
      have hl1 := (hlz.set (q + i) (x := vz + va * D % 65536) (by omega) (by omega)).set (q + i + 1) (x := va * D / 65536) (by omega) (by omega)
      have HL1 := hide hl1
      have HPUT := hide hput
      have hX : 0 ≤ va * D ∧ va * D ≤ 4294967296 := by omega
      have HC2 : Hid (((zs.set (q + i) (vz + va * D % 65536)).set (q + i + 1) (va * D / 65536)).getD (q + (i + 1)) 0 ≤ D - 1) := by
        show _ ≤ _
        rw [show q + (i + 1) = q + i + 1 from rfl, getD_set_eq _ _ _ (by rw [List.length_set]; omega)]
        omega
      have HP2 : Hid (∀ p, q + (i + 1) < p → ((zs.set (q + i) (vz + va * D % 65536)).set (q + i + 1) (va * D / 65536)).getD p 0 = 0) := fun p h => by
        rw [getD_set_ne _ _ _ _ (by omega), getD_set_ne _ _ _ _ (by omega)]; exact unhide hp p (by omega)
      have hls : ((zs.set (q + i) (vz + va * D % 65536)).set (q + i + 1) (va * D / 65536)).length = T := by simpa using hs'
      have HLS := hide hls
      have hpt := (hf.put hs'.symm (q + i) (vz + va * D % 65536))
      have y3' := cell_off _ G (q + i + 1) (q + i) (.int .i64 (vz + va * D % 65536)) _ y3 (by omega)
      have hpt2 := hpt.put (by rw [List.length_set]; exact hs'.symm) (q + i + 1) (va * D / 65536)
      have HPT := hide hpt2
      have hij : (q : Int) + (i : Int) < (T : Int) := by omega
      have hij0 : 0 ≤ (q : Int) + (i : Int) := by omega
      have hij1 : (q : Int) + (i : Int) + 1 < (T : Int) := by omega
      have hij2 : 0 ≤ (q : Int) + (i : Int) + 1 := by omega
      have et : (va * D).tmod 65536 = va * D % 65536 := by rw [Int.tmod_eq_emod_of_nonneg (by omega)]
      have ed : (va * D).tdiv 65536 = va * D / 65536 := by rw [Int.tdiv_eq_ediv_of_nonneg (by omega)]
      have hep := unhide HEP
      clear hV hput hc hp hva hvz hf hs' hls hlz hpt hpt2 hl1 hz1
      go_wp2
      go_roundw
      case rel => exact ⟨_, i + 1, by go_num, by omega, unhide HLS, unhide HL1, HC2, HP2, HPUT, unhide HPT⟩
      case measure => simp [intOf]; omega
    · have hiM : i = M := by omega
      have hi1 : ¬ (i : Int) < (M : Int) := by omega
      have hv := unhide hV
      rw [List.take_of_length_le (by rw [← unhide HM]; omega), unhide HTOT] at hv
      have hlt1 := (unhide N1).lt
      have hG := (hf.own.lt G rfl).1
      have hc1' := hf.k.cell0 (unhide N1).cell
      have hf1' := hf.k.loose0 (a := ⟨g, 0, none⟩) hlt1 (unhide N1).loose
      have hown := hf.own
      rw [hs'] at hown
      have hnum : Num w'.heap.size (wr.setCell ⟨g, 0, none⟩ (.slice (some ⟨G, 0, none⟩) T T)) g (.slice (some ⟨G, 0, none⟩) T T) zs :=
        ⟨cell_on _ _ _ _ _ hc1', by rw [frozen_set]; exact hf1', by rw [hs']; exact own_apart hown (p := ⟨g, 0, none⟩) (by simp [Value.ownBlock]; omega) _, by simp [Value.ownBlock]; omega⟩
      have hmod : Mod (fun i => i = g) w' (wr.setCell ⟨g, 0, none⟩ (.slice (some ⟨G, 0, none⟩) T T)) := Mod.set (S := fun i => i = g) hf.k.toMod (p := ⟨g, 0, none⟩) (.inl rfl) _
      have hsd : SameSide g w' (wr.setCell ⟨g, 0, none⟩ (.slice (some ⟨G, 0, none⟩) T T)) := (hf.k.side hlt1).set0 _
      have SD := hide hsd
      clear hsd
      have NU := hide hnum
      have MO := hide hmod
      have HVV := hide hv
      clear hnum hmod hv hown hf hc hp hV hiM
      go_wp2_with fail
      refine (trim_side _ (unhide NU) hlz).mono ?_
      rintro e w6 ⟨⟨r6, rfl⟩, u6, n6, ho6, m6, sd6⟩
      have N6 := hide n6
      rw [unhide HVV, Int.toNat_natCast] at N6
      have M6 := hide ((unhide MO).trans m6)
      have S6 := hide ((unhide SD).trans sd6)
      clear n6 ho6 m6 sd6
      go_wp2
      exact bodyPost_end (v := .tuple #[]) (by simp [results, Try.results90, go_sem]) rfl ⟨⟨_, rfl⟩, _, unhide N6, unhide M6, unhide S6⟩

set_option maxHeartbeats 1000000 in
theorem isZero_work {b g : Nat} {v : Value} {zs : List Int} (w : World) (h : Work b w g v zs) :
    Calls Try.prog 69 #[.pointer (some ⟨g, 0, none⟩)] w fun e w' => e = .returned (.bool (decide (zs.length = 0))) ∧ w' = w := by
  have hc := h.cell
  obtain ⟨a1, c1, rfl⟩ := h.form
  clear h
  go_enter Try.func69, Try.ntmps69
  go_wp2
  go_ret
  refine ⟨?_, rfl⟩
  cases zs with
  | nil => simp
  | cons z t => simp; omega

set_option maxHeartbeats 1000000 in
theorem isBelow_work {b g : Nat} {v : Value} {zs : List Int} {s : Bool} (w : World) (h : Work b w g v zs) (d : Sd w g s) :
    Calls Try.prog 40 #[.pointer (some ⟨g, 0, none⟩)] w fun e w' => e = .returned (.bool (s && decide (0 < zs.length))) ∧ w' = w := by
  have hc := h.cell
  have hd := d.1
  have hz := isZero_work w h
  obtain ⟨a1, c1, rfl⟩ := h.form
  have HZ := hide hz
  clear hz h d
  cases s
  · go_enter Try.func40, Try.ntmps40
    go_wp2
    go_ret
    exact ⟨rfl, rfl⟩
  · go_enter Try.func40, Try.ntmps40
    go_wp2_with (go_at_call 69; refine (unhide HZ).mono ?_; rintro e w' ⟨rfl, rfl⟩)
    go_ret
    refine ⟨?_, rfl⟩
    cases zs <;> simp

end Go.Proofs.Ytfikfmkhmojpfaa

namespace Go.Proofs.Ytfikfmkhmojpfaa
open Go.RowKit
set_option linter.unusedVariables false
set_option maxRecDepth 8000

set_option maxHeartbeats 1000000 in
theorem copied_impl {b g : Nat} {v : Value} {zs : List Int} (w : World) (h : Num b w g v zs) (hlen : zs.length ≤ 1000000) :
    Calls Try.prog 110 #[.pointer (some ⟨g, 0, none⟩)] w fun e w' => ∃ v', e = .returned (.agg #[v']) ∧ w'.ownsRow w.heap.size 3 1 v' zs.length (zs.map (Value.int .i64)) ∧ Kept 0 0 w w' := by
  have s1 := h.row.kept ((Kept.refl 0 0 w).alloc (.cells #[.slice none 0 0] 77)) (by omega)
  obtain ⟨a1, c1, rfl⟩ := h.form
  have hce := old_cell (.cells #[.slice none 0 0] 77) h.cell
  clear h
  go_enter Try.func110, Try.ntmps110
  go_wp2_with fail
  generalize hW : w.alloc (.cells #[.slice none 0 0] 77) = W at *
  have c2' : W.cell? ⟨w.heap.size, 0, none⟩ = some (.slice none 0 0) := by rw [← hW]; exact new_cell_at _ _ _ _ rfl
  have f2' : W.frozen? ⟨w.heap.size, 0, none⟩ = false := by rw [← hW]; exact new_loose _ _ _ _ rfl
  have hs : W.heap.size = w.heap.size + 1 := by rw [← hW]; simp
  have hk : Kept 0 0 w W := by rw [← hW]; exact (Kept.refl 0 0 w).alloc _
  clear hW
  refine (clone_impl _ s1 hlen).mono ?_
  rintro e w6 ⟨v6, rfl, o6, k6⟩
  have c4 := k6.cell0 c2'
  have f4 := k6.loose0 (by simp; omega) f2'
  have O : Hid ((w6.setCell ⟨w.heap.size, 0, none⟩ v6).ownsRow w.heap.size 3 1 v6 zs.length (zs.map (Value.int .i64))) := own_less (ownsRow_setCell_below o6 (a := ⟨w.heap.size, 0, none⟩) (by simp; omega) v6) (by omega)
  have K : Hid (Kept 0 0 w (w6.setCell ⟨w.heap.size, 0, none⟩ v6)) := (hk.trans k6).setNew (p := ⟨w.heap.size, 0, none⟩) (by simp) _
  obtain ⟨a6, c6, rfl⟩ := own_slice o6
  clear s1 c2' f2' hs hk k6 o6 hce
  go_wp2
  exact bodyPost_ret (v := .agg #[.slice a6 zs.length c6]) (by simp [results, Try.results110, go_sem, c4]) rfl ⟨_, rfl, unhide O, unhide K⟩

/-- What the next square is, behind zs: the number itself at first. -/
def nextSq (xs zs : List Int) : List Int := if zs.length = 0 then xs else limbs (val zs * val zs).toNat

set_option maxHeartbeats 4000000 in
theorem square_impl {b1 bn g1 gp gn : Nat} {v1 vn : Value} {zs xs : List Int} (w : World) (h1 : Num b1 w g1 v1 zs) (hp : w.cell? ⟨gp, 0, none⟩ = some (.pointer (some ⟨gn, 0, none⟩))) (hn : Num bn w gn vn xs) (hz : Lim zs) (lz : zs.length ≤ 100000) (lx : xs.length ≤ 100000) :
    Calls Try.prog 120 #[.pointer (some ⟨g1, 0, none⟩), .pointer (some ⟨gp, 0, none⟩)] w fun e w' => ∃ u, e = .returned (.agg #[u]) ∧ Num w.heap.size w' g1 u (nextSq xs zs) ∧ Mod (fun i => i = g1) w w' := by
  have k0 := (Kept.refl 0 0 w).alloc (.cells #[.slice none 0 0] 77)
  have m1 := h1.kept k0
  have mn := hn.kept k0
  have hp1 := k0.cell0 hp
  have cr : (w.alloc (.cells #[.slice none 0 0] 77)).cell? ⟨w.heap.size, 0, none⟩ = some (.slice none 0 0) := new_cell_at _ _ _ _ rfl
  have fr : (w.alloc (.cells #[.slice none 0 0] 77)).frozen? ⟨w.heap.size, 0, none⟩ = false := new_loose _ _ _ _ rfl
  have hs : (w.alloc (.cells #[.slice none 0 0] 77)).heap.size = w.heap.size + 1 := by simp
  have hg1 := h1.lt
  have hap := h1.apart
  clear h1 hn hp
  go_enter Try.func120, Try.ntmps120
  go_wp2_with fail
  generalize w.alloc (.cells #[.slice none 0 0] 77) = W at *
  refine (isZero_impl _ m1).mono ?_
  rintro e w1 ⟨rfl, rfl⟩
  by_cases h0 : zs.length = 0
  · rw [decide_eq_true h0]
    have e0 : nextSq xs zs = xs := by unfold nextSq; rw [if_pos h0]
    have E0 := hide e0
    clear e0
    go_wp2_with fail
    refine (copied_impl _ mn (by omega)).mono ?_
    rintro e w2 ⟨v2, rfl, o2, k2⟩
    have c1 := k2.cell0 m1.cell
    have f1 := k2.loose0 m1.lt m1.loose
    have cr2 := k2.cell0 cr
    have fr2 := k2.loose0 (World.block_lt_of_cell? _ _ cr) fr
    have s2 := k2.size
    have hne : ¬ g1 = w.heap.size := by omega
    have hne' : ¬ w.heap.size = g1 := by omega
    have hN : Num w.heap.size ((w2.setCell ⟨g1, 0, none⟩ v2).setCell ⟨w.heap.size, 0, none⟩ v2) g1 v2 xs := by
      have o3 := own_apart o2 (p := ⟨g1, 0, none⟩) (fun e => by have := (o2.lt _ e).1; simp at this; omega) v2
      have o4 := own_apart o3 (p := ⟨w.heap.size, 0, none⟩) (fun e => by have := (o2.lt _ e).1; simp at this; omega) v2
      refine ⟨cell_aside _ (p := ⟨g1, 0, none⟩) (r := ⟨w.heap.size, 0, none⟩) (by simpa using hne') (cell_on _ _ _ _ _ c1), by rw [frozen_set, frozen_set]; exact f1, own_less o4 (by omega), fun e => by have := (o2.lt _ e).1; omega⟩
    have hM : Mod (fun i => i = g1) w ((w2.setCell ⟨g1, 0, none⟩ v2).setCell ⟨w.heap.size, 0, none⟩ v2) := Mod.set (Mod.set (S := fun i => i = g1) (k0.trans k2).toMod (p := ⟨g1, 0, none⟩) (.inl rfl) v2) (p := ⟨w.heap.size, 0, none⟩) (.inr (Nat.le_refl _)) v2
    have HN := hide hN
    have HM := hide hM
    have cr3 := cell_aside v2 (p := ⟨w.heap.size, 0, none⟩) (r := ⟨g1, 0, none⟩) hne cr2
    obtain ⟨a2, c2, rfl⟩ := own_slice o2
    clear hN hM k2 o2 m1 mn k0
    go_wp2_with fail
    exact bodyPost_ret (v := .agg #[.slice a2 xs.length c2]) (by simp [results, Try.results120, go_sem, cr3]) rfl ⟨_, rfl, by rw [unhide E0]; exact unhide HN, unhide HM⟩
  · rw [decide_eq_false h0]
    have e0 : nextSq xs zs = limbs (val zs * val zs).toNat := by unfold nextSq; rw [if_neg h0]
    have E0 := hide e0
    clear e0
    go_wp2_with fail
    refine (multiply_impl _ m1 m1 hz hz lz lz).mono ?_
    rintro e w2 ⟨⟨r2, rfl⟩, u2, n2, mm⟩
    have hne : ¬ g1 = w.heap.size := by omega
    have hne' : ¬ w.heap.size = g1 := by omega
    have cr2 := mm.cellAt (show ¬ w.heap.size = g1 from hne') cr
    have fr2 := mm.looseAt (show ¬ w.heap.size = g1 from hne') (World.block_lt_of_cell? _ _ cr) fr
    have c1 := n2.cell
    generalize hzz : limbs (val zs * val zs).toNat = zz at *
    obtain ⟨a2, c2, rfl⟩ := n2.form
    have hN : Num w.heap.size (w2.setCell ⟨w.heap.size, 0, none⟩ (.slice a2 zz.length c2)) g1 (.slice a2 zz.length c2) zz :=
      ⟨cell_aside _ (p := ⟨g1, 0, none⟩) (r := ⟨w.heap.size, 0, none⟩) (by simpa using hne') c1, by rw [frozen_set]; exact n2.loose, own_less (own_apart n2.own (p := ⟨w.heap.size, 0, none⟩) (fun e => by have := (n2.own.lt _ e).1; simp at this; omega) _) (by omega), n2.apart⟩
    have hM : Mod (fun i => i = g1) w (w2.setCell ⟨w.heap.size, 0, none⟩ (.slice a2 zz.length c2)) := Mod.set ((Kept.toMod k0).trans mm) (p := ⟨w.heap.size, 0, none⟩) (.inr (Nat.le_refl _)) _
    have HN := hide hN
    have HM := hide hM
    clear hN hM n2 mm m1 mn k0 hzz
    go_wp2_with fail
    exact bodyPost_ret (v := .agg #[.slice a2 zz.length c2]) (by simp [results, Try.results120, go_sem, cr2]) rfl ⟨_, rfl, by rw [unhide E0]; exact unhide HN, unhide HM⟩

end Go.Proofs.Ytfikfmkhmojpfaa

namespace Go.Proofs.Ytfikfmkhmojpfaa
open Go.RowKit
set_option linter.unusedVariables false
set_option maxRecDepth 8000
set_option linter.unusedSimpArgs false

theorem front_set (w : World) (g : Nat) (u : Value) : (w.setCell ⟨g, 1, none⟩ u).cell? ⟨g, 0, none⟩ = w.cell? ⟨g, 0, none⟩ := by
  unfold World.cell? World.setCell
  simp only [Array.getElem?_modify]
  cases hb : w.heap[g]? with
  | none => simp
  | some b => cases b <;> simp
theorem Num.side {b g : Nat} {w : World} {v : Value} {zs : List Int} (h : Num b w g v zs) (u : Value) : Num b (w.setCell ⟨g, 1, none⟩ u) g v zs :=
  ⟨(front_set w g u).trans h.cell, by rw [frozen_set]; exact h.loose, own_apart h.own (p := ⟨g, 1, none⟩) h.apart u, h.apart⟩
theorem Sd.set {w : World} {g : Nat} {s : Bool} (h : Sd w g s) (t : Bool) : Sd (w.setCell ⟨g, 1, none⟩ (.bool t)) g t :=
  ⟨by have := cell_set w g 1 1 (.bool t) (.bool s) h.1; simpa using this, by rw [frozen_set]; exact h.2⟩

theorem in_multiply : ∀ (w : World) (args : Array Value), (callFunc 93 args).run Try.prog w = .ok (.enter 93 args) w := enters Try.func93 (by decide) (fun h => by cases h)

theorem in_compare : ∀ (w : World) (args : Array Value), (callFunc 122 args).run Try.prog w = .ok (.enter 122 args) w := enters Try.func122 (by decide) (fun h => by cases h)

theorem in_copied : ∀ (w : World) (args : Array Value), (callFunc 110 args).run Try.prog w = .ok (.enter 110 args) w := enters Try.func110 (by decide) (fun h => by cases h)

theorem own_base {w : World} {b b' n : Nat} {e : TypeId} {v : Value} {xs : List Value} (h : w.ownsRow b e 1 v n xs) (hb : ∀ i, v.ownBlock = some i → b' ≤ i) : w.ownsRow b' e 1 v n xs := by
  refine ⟨h.1, ?_⟩
  rcases h.2 with hn | ⟨g, cap, cur, rfl, h1, rest⟩
  · exact .inl hn
  · exact .inr ⟨g, cap, cur, rfl, hb g rfl, rest⟩
/-- Two numbers with signs, apart, newer than w0. -/
structure Sig2 (w0 w : World) (g1 g2 : Nat) (s1 : Bool) (xs : List Int) (s2 : Bool) (ys : List Int) : Prop where
  two : ∃ u1 u2, Two w0 w g1 g2 u1 u2 xs ys
  d1 : Sd w g1 s1
  d2 : Sd w g2 s2

set_option maxHeartbeats 4000000 in
theorem compareSigned_wn {w0 w : World} {g1 g2 : Nat} {s1 s2 : Bool} {xs ys : List Int} (S : Sig2 w0 w g1 g2 s1 xs s2 ys) (o1 : WN s1 xs) (o2 : WN s2 ys) :
    Calls Try.prog 118 #[.pointer (some ⟨g1, 0, none⟩), .pointer (some ⟨g2, 0, none⟩)] w fun e w' => e = .returned (.int .i64 (cmpI (wval s1 xs) (wval s2 ys))) ∧ Kept 0 0 w w' := by
  obtain ⟨x1, x2, hx⟩ := o1.int
  obtain ⟨y1, y2, hy⟩ := o2.int
  have nx := val_nonneg hx.1
  have ny := val_nonneg hy.1
  obtain ⟨u1, u2, t⟩ := S.two
  have b1 := isBelow_impl w t.n1 S.d1
  have b2 := isBelow_impl w t.n2 S.d2
  have e1 : (s1 && decide (0 < xs.length)) = s1 := by
    cases s1
    · rfl
    · exact decide_eq_true (o1.2 rfl)
  have e2 : (s2 && decide (0 < ys.length)) = s2 := by
    cases s2
    · rfl
    · exact decide_eq_true (o2.2 rfl)
  rw [e1] at b1
  rw [e2] at b2
  have T := hide t
  have B1 := hide b1
  have B2 := hide b2
  clear S t b1 b2 x2 y2 e1 e2 o1 o2
  cases s1 <;> cases s2
  · have e : cmpI (wval false xs) (wval false ys) = cmpI (val xs) (val ys) := by simp [wval]
    rw [e]
    clear x1 y1 e
    go_enter Try.func118, Try.ntmps118
    go_wp2_with (first | (go_at_call_of 40 (Value.pointer (some ⟨g1, 0, none⟩)); refine (unhide B1).mono ?_; rintro e w' ⟨rfl, rfl⟩) | (go_at_call_of 40 (Value.pointer (some ⟨g2, 0, none⟩)); refine (unhide B2).mono ?_; rintro e w' ⟨rfl, rfl⟩))
    refine wp_region_held_drew (S := (fun _ => True)) (by kernel_rfl) ?_ (fun hHeld => ?_)
    · trivial
    refine wpAnyH_take (i := 0) (oi := _) (v := .pointer (some ⟨g1, 0, none⟩)) rfl (by kernel_rfl) (by kernel_rfl) (by kernel_rfl) (fun _ _ _ h => h) (Or.inl ⟨by rfl, ?_⟩) hHeld ?_
    · intro wq hSw
      try dsimp only at hSw
      go_simp
    try simp only [Act.put, List.getElem_toArray, List.getElem_cons_succ, List.getElem_cons_zero, List.setIfInBounds_toArray, List.set_cons_zero, List.set_cons_succ]
    refine wpAnyH_take (i := 1) (oi := _) (v := .pointer (some ⟨g1, 0, none⟩)) rfl (by kernel_rfl) (by kernel_rfl) (by kernel_rfl) (fun _ _ _ h => h) (Or.inl ⟨by rfl, ?_⟩) hHeld ?_
    · intro wq hSw
      try dsimp only at hSw
      go_simp
    try simp only [Act.put, List.getElem_toArray, List.getElem_cons_succ, List.getElem_cons_zero, List.setIfInBounds_toArray, List.set_cons_zero, List.set_cons_succ]
    refine wpAnyH_take (i := 2) (oi := _) (v := .pointer (some ⟨g1, 0, none⟩)) rfl (by kernel_rfl) (by kernel_rfl) (by kernel_rfl) (fun _ _ _ h => h) (Or.inl ⟨by rfl, ?_⟩) hHeld ?_
    · intro wq hSw
      try dsimp only at hSw
      go_simp
    try simp only [Act.put, List.getElem_toArray, List.getElem_cons_succ, List.getElem_cons_zero, List.setIfInBounds_toArray, List.set_cons_zero, List.set_cons_succ]
    refine wpAnyH_take (i := 3) (oi := _) (v := .pointer (some ⟨g2, 0, none⟩)) rfl (by kernel_rfl) (by kernel_rfl) (by kernel_rfl) (fun _ _ _ h => h) (Or.inl ⟨by rfl, ?_⟩) hHeld ?_
    · intro wq hSw
      try dsimp only at hSw
      go_simp
    try simp only [Act.put, List.getElem_toArray, List.getElem_cons_succ, List.getElem_cons_zero, List.setIfInBounds_toArray, List.set_cons_zero, List.set_cons_succ]
    refine wpAnyH_take (i := 4) (oi := _) (v := .pointer (some ⟨g2, 0, none⟩)) rfl (by kernel_rfl) (by kernel_rfl) (by kernel_rfl) (fun _ _ _ h => h) (Or.inl ⟨by rfl, ?_⟩) hHeld ?_
    · intro wq hSw
      try dsimp only at hSw
      go_simp
    try simp only [Act.put, List.getElem_toArray, List.getElem_cons_succ, List.getElem_cons_zero, List.setIfInBounds_toArray, List.set_cons_zero, List.set_cons_succ]
    refine wpAnyH_take (i := 5) (oi := _) (v := .pointer (some ⟨g2, 0, none⟩)) rfl (by kernel_rfl) (by kernel_rfl) (by kernel_rfl) (fun _ _ _ h => h) (Or.inl ⟨by rfl, ?_⟩) hHeld ?_
    · intro wq hSw
      try dsimp only at hSw
      go_simp
    try simp only [Act.put, List.getElem_toArray, List.getElem_cons_succ, List.getElem_cons_zero, List.setIfInBounds_toArray, List.set_cons_zero, List.set_cons_succ]
    refine wpAnyH_ready (rs := [6]) (by kernel_rfl) (by simp) ?_
    refine AllReadyH.cons rfl (fun KK hK => ?_) AllReadyH.nil
    simp only [List.getElem_toArray, List.getElem_cons_succ, List.getElem_cons_zero]
    rw [if_pos (by rfl)]
    refine wps2 122 (.tmp 27) (.tmp 30) _ rfl in_compare (.pointer (some ⟨g1, 0, none⟩)) (.pointer (some ⟨g2, 0, none⟩)) rfl rfl (compare_impl _ ((unhide T).kept (Kept.refl 0 0 _).drew).n1 ((unhide T).kept (Kept.refl 0 0 _).drew).n2 hx hy) ?_
    rintro e w5 ⟨rfl, k5⟩
    refine ⟨_, rfl, ?_⟩
    have K5 := hide ((Kept.refl 0 0 _).drew.trans k5)
    clear k5
    clear hHeld
    refine hK.out _ _ ?_ (fun hHeld => ?_)
    · trivial
    clear hK KK
    try simp only [Act.put, List.getElem_toArray, List.getElem_cons_succ, List.getElem_cons_zero, List.setIfInBounds_toArray, List.set_cons_zero, List.set_cons_succ]
    refine wpAnyH_take (i := 7) (oi := _) (v := .int .i64 (cmpI (val xs) (val ys))) rfl (by kernel_rfl) (by kernel_rfl) (by kernel_rfl) (fun _ _ _ h => h) (Or.inl ⟨by rfl, ?_⟩) hHeld ?_
    · intro wq hSw
      try dsimp only at hSw
      go_simp
    try simp only [Act.put, List.getElem_toArray, List.getElem_cons_succ, List.getElem_cons_zero, List.setIfInBounds_toArray, List.set_cons_zero, List.set_cons_succ]
    refine wpAnyH_done (by kernel_rfl) ?_ _
    clear hHeld
    go_wp2
    go_ret
    exact ⟨rfl, unhide K5⟩
  · have e : cmpI (wval false xs) (wval true ys) = 1 := by simp [wval] at y1 ⊢; unfold cmpI; rw [if_neg (by omega), if_pos (by omega)]
    rw [e]
    clear x1 y1 e
    go_enter Try.func118, Try.ntmps118
    go_wp2_with (first | (go_at_call_of 40 (Value.pointer (some ⟨g1, 0, none⟩)); refine (unhide B1).mono ?_; rintro e w' ⟨rfl, rfl⟩) | (go_at_call_of 40 (Value.pointer (some ⟨g2, 0, none⟩)); refine (unhide B2).mono ?_; rintro e w' ⟨rfl, rfl⟩))
    go_ret
    exact ⟨rfl, Kept.refl 0 0 _⟩
  · have e : cmpI (wval true xs) (wval false ys) = -1 := by simp [wval] at x1 ⊢; unfold cmpI; rw [if_pos (by omega)]
    rw [e]
    clear x1 y1 e
    go_enter Try.func118, Try.ntmps118
    go_wp2_with (first | (go_at_call_of 40 (Value.pointer (some ⟨g1, 0, none⟩)); refine (unhide B1).mono ?_; rintro e w' ⟨rfl, rfl⟩) | (go_at_call_of 40 (Value.pointer (some ⟨g2, 0, none⟩)); refine (unhide B2).mono ?_; rintro e w' ⟨rfl, rfl⟩))
    go_ret
    exact ⟨rfl, Kept.refl 0 0 _⟩
  · have e : cmpI (wval true xs) (wval true ys) = cmpI (val ys) (val xs) := by simp [wval]; unfold cmpI; split <;> split <;> (try split) <;> (try split) <;> omega
    rw [e]
    clear x1 y1 e
    go_enter Try.func118, Try.ntmps118
    go_wp2_with (first | (go_at_call_of 40 (Value.pointer (some ⟨g1, 0, none⟩)); refine (unhide B1).mono ?_; rintro e w' ⟨rfl, rfl⟩) | (go_at_call_of 40 (Value.pointer (some ⟨g2, 0, none⟩)); refine (unhide B2).mono ?_; rintro e w' ⟨rfl, rfl⟩))
    refine wp_region_held_drew (S := (fun _ => True)) (by kernel_rfl) ?_ (fun hHeld => ?_)
    · trivial
    refine wpAnyH_take (i := 0) (oi := _) (v := .pointer (some ⟨g2, 0, none⟩)) rfl (by kernel_rfl) (by kernel_rfl) (by kernel_rfl) (fun _ _ _ h => h) (Or.inl ⟨by rfl, ?_⟩) hHeld ?_
    · intro wq hSw
      try dsimp only at hSw
      go_simp
    try simp only [Act.put, List.getElem_toArray, List.getElem_cons_succ, List.getElem_cons_zero, List.setIfInBounds_toArray, List.set_cons_zero, List.set_cons_succ]
    refine wpAnyH_take (i := 1) (oi := _) (v := .pointer (some ⟨g2, 0, none⟩)) rfl (by kernel_rfl) (by kernel_rfl) (by kernel_rfl) (fun _ _ _ h => h) (Or.inl ⟨by rfl, ?_⟩) hHeld ?_
    · intro wq hSw
      try dsimp only at hSw
      go_simp
    try simp only [Act.put, List.getElem_toArray, List.getElem_cons_succ, List.getElem_cons_zero, List.setIfInBounds_toArray, List.set_cons_zero, List.set_cons_succ]
    refine wpAnyH_take (i := 2) (oi := _) (v := .pointer (some ⟨g2, 0, none⟩)) rfl (by kernel_rfl) (by kernel_rfl) (by kernel_rfl) (fun _ _ _ h => h) (Or.inl ⟨by rfl, ?_⟩) hHeld ?_
    · intro wq hSw
      try dsimp only at hSw
      go_simp
    try simp only [Act.put, List.getElem_toArray, List.getElem_cons_succ, List.getElem_cons_zero, List.setIfInBounds_toArray, List.set_cons_zero, List.set_cons_succ]
    refine wpAnyH_take (i := 3) (oi := _) (v := .pointer (some ⟨g1, 0, none⟩)) rfl (by kernel_rfl) (by kernel_rfl) (by kernel_rfl) (fun _ _ _ h => h) (Or.inl ⟨by rfl, ?_⟩) hHeld ?_
    · intro wq hSw
      try dsimp only at hSw
      go_simp
    try simp only [Act.put, List.getElem_toArray, List.getElem_cons_succ, List.getElem_cons_zero, List.setIfInBounds_toArray, List.set_cons_zero, List.set_cons_succ]
    refine wpAnyH_take (i := 4) (oi := _) (v := .pointer (some ⟨g1, 0, none⟩)) rfl (by kernel_rfl) (by kernel_rfl) (by kernel_rfl) (fun _ _ _ h => h) (Or.inl ⟨by rfl, ?_⟩) hHeld ?_
    · intro wq hSw
      try dsimp only at hSw
      go_simp
    try simp only [Act.put, List.getElem_toArray, List.getElem_cons_succ, List.getElem_cons_zero, List.setIfInBounds_toArray, List.set_cons_zero, List.set_cons_succ]
    refine wpAnyH_take (i := 5) (oi := _) (v := .pointer (some ⟨g1, 0, none⟩)) rfl (by kernel_rfl) (by kernel_rfl) (by kernel_rfl) (fun _ _ _ h => h) (Or.inl ⟨by rfl, ?_⟩) hHeld ?_
    · intro wq hSw
      try dsimp only at hSw
      go_simp
    try simp only [Act.put, List.getElem_toArray, List.getElem_cons_succ, List.getElem_cons_zero, List.setIfInBounds_toArray, List.set_cons_zero, List.set_cons_succ]
    refine wpAnyH_ready (rs := [6]) (by kernel_rfl) (by simp) ?_
    refine AllReadyH.cons rfl (fun KK hK => ?_) AllReadyH.nil
    simp only [List.getElem_toArray, List.getElem_cons_succ, List.getElem_cons_zero]
    rw [if_pos (by rfl)]
    refine wps2 122 (.tmp 14) (.tmp 17) _ rfl in_compare (.pointer (some ⟨g2, 0, none⟩)) (.pointer (some ⟨g1, 0, none⟩)) rfl rfl (compare_impl _ ((unhide T).kept (Kept.refl 0 0 _).drew).n2 ((unhide T).kept (Kept.refl 0 0 _).drew).n1 hy hx) ?_
    rintro e w5 ⟨rfl, k5⟩
    refine ⟨_, rfl, ?_⟩
    have K5 := hide ((Kept.refl 0 0 _).drew.trans k5)
    clear k5
    clear hHeld
    refine hK.out _ _ ?_ (fun hHeld => ?_)
    · trivial
    clear hK KK
    try simp only [Act.put, List.getElem_toArray, List.getElem_cons_succ, List.getElem_cons_zero, List.setIfInBounds_toArray, List.set_cons_zero, List.set_cons_succ]
    refine wpAnyH_take (i := 7) (oi := _) (v := .int .i64 (cmpI (val ys) (val xs))) rfl (by kernel_rfl) (by kernel_rfl) (by kernel_rfl) (fun _ _ _ h => h) (Or.inl ⟨by rfl, ?_⟩) hHeld ?_
    · intro wq hSw
      try dsimp only at hSw
      go_simp
    try simp only [Act.put, List.getElem_toArray, List.getElem_cons_succ, List.getElem_cons_zero, List.setIfInBounds_toArray, List.set_cons_zero, List.set_cons_succ]
    refine wpAnyH_done (by kernel_rfl) ?_ _
    clear hHeld
    go_wp2
    go_ret
    exact ⟨rfl, unhide K5⟩

theorem compareSigned_impl {w0 w : World} {g1 g2 : Nat} {s1 s2 : Bool} {xs ys : List Int} (S : Sig2 w0 w g1 g2 s1 xs s2 ys) (o1 : wokB s1 xs = true) (o2 : wokB s2 ys = true) :
    Calls Try.prog 118 #[.pointer (some ⟨g1, 0, none⟩), .pointer (some ⟨g2, 0, none⟩)] w fun e w' => e = .returned (.int .i64 (cmpI (wval s1 xs) (wval s2 ys))) ∧ Kept 0 0 w w' :=
  compareSigned_wn S (wok_wn o1) (wok_wn o2)

end Go.Proofs.Ytfikfmkhmojpfaa

namespace Go.Proofs.Ytfikfmkhmojpfaa
open Go.RowKit
set_option linter.unusedVariables false
set_option maxRecDepth 8000
set_option linter.unusedSimpArgs false

theorem put_sig {w : World} {X b : Nat} {u z p : Value} {xs : List Int} (s : Bool) (O : w.ownsRow b 3 1 u xs.length (xs.map (Value.int .i64)))
    (cX : w.cell? ⟨X, 0, none⟩ = some z) (dX : w.cell? ⟨X, 1, none⟩ = some p) (fX : w.frozen? ⟨X, 0, none⟩ = false) (gX : w.frozen? ⟨X, 1, none⟩ = false) (hu : u.ownBlock ≠ some X) :
    Num b ((w.setCell ⟨X, 0, none⟩ u).setCell ⟨X, 1, none⟩ (.bool s)) X u xs ∧ Sd ((w.setCell ⟨X, 0, none⟩ u).setCell ⟨X, 1, none⟩ (.bool s)) X s ∧ Mod (fun i => i = X) w ((w.setCell ⟨X, 0, none⟩ u).setCell ⟨X, 1, none⟩ (.bool s)) := by
  have a2 : (w.setCell ⟨X, 0, none⟩ u).cell? ⟨X, 1, none⟩ = some p := (side_set _ _ _).trans dX
  refine ⟨⟨(front_set _ _ _).trans (cell_on _ _ _ _ _ cX), by rw [frozen_set, frozen_set]; exact fX, own_apart (own_apart O (p := ⟨X, 0, none⟩) hu u) (p := ⟨X, 1, none⟩) hu _, hu⟩, ⟨by have := cell_set _ X 1 1 (.bool s) _ a2; simpa using this, by rw [frozen_set, frozen_set]; exact gX⟩, ?_⟩
  exact Mod.set (S := fun i => i = X) (Mod.set (S := fun i => i = X) (Mod.refl _ _) (p := ⟨X, 0, none⟩) (.inl rfl) _) (p := ⟨X, 1, none⟩) (.inl rfl) _
theorem sig_pair {w0 w4 : World} {X Y b1 b2 : Nat} {u1 u2 z1 z2 p1 p2 : Value} {xs ys : List Int} (s1 s2 : Bool) (hk : Kept 0 0 w0 w4) (O1 : w4.ownsRow b1 3 1 u1 xs.length (xs.map (Value.int .i64))) (O2 : w4.ownsRow b2 3 1 u2 ys.length (ys.map (Value.int .i64)))
    (cX : w4.cell? ⟨X, 0, none⟩ = some z1) (dX : w4.cell? ⟨X, 1, none⟩ = some p1) (fX : w4.frozen? ⟨X, 0, none⟩ = false) (gX : w4.frozen? ⟨X, 1, none⟩ = false)
    (cY : w4.cell? ⟨Y, 0, none⟩ = some z2) (dY : w4.cell? ⟨Y, 1, none⟩ = some p2) (fY : w4.frozen? ⟨Y, 0, none⟩ = false) (gY : w4.frozen? ⟨Y, 1, none⟩ = false)
    (hXY : X ≠ Y) (hX : w0.heap.size ≤ X) (hY : w0.heap.size ≤ Y) (hb1 : w0.heap.size ≤ b1) (hb2 : w0.heap.size ≤ b2)
    (h1X : u1.ownBlock ≠ some X) (h1Y : u1.ownBlock ≠ some Y) (h2X : u2.ownBlock ≠ some X) (h2Y : u2.ownBlock ≠ some Y) (h12 : ∀ k, u1.ownBlock = some k → u2.ownBlock ≠ some k) :
    Sig2 w0 ((((w4.setCell ⟨X, 0, none⟩ u1).setCell ⟨X, 1, none⟩ (.bool s1)).setCell ⟨Y, 0, none⟩ u2).setCell ⟨Y, 1, none⟩ (.bool s2)) X Y s1 xs s2 ys := by
  obtain ⟨n1, d1, m1⟩ := put_sig s1 O1 cX dX fX gX h1X
  have lY : Y < w4.heap.size := World.block_lt_of_cell? _ ⟨Y, 0, none⟩ cY
  obtain ⟨n2, d2, m2⟩ := put_sig s2 (m1.own O2 (fun i e e' => h2X (by rw [e, e']))) (m1.cellAt (fun e => hXY e.symm) cY) (m1.cellAt (fun e => hXY e.symm) dY) (m1.looseAt (fun e => hXY e.symm) lY fY) (m1.looseAt (fun e => hXY e.symm) lY gY) h2Y
  have n1' := n1.mod m2 hXY (fun i e e' => h1Y (by rw [e, e']))
  exact ⟨⟨u1, u2, n1'.less hb1, n2.less hb2, hXY, h1Y, h2X, h12, (hk.mod m1 (fun i e => by rw [e]; exact hX)).mod m2 (fun i e => by rw [e]; exact hY), hX, hY⟩, d1.same (m2.side d1.lt hXY), d2⟩

theorem in_signedOf : ∀ (w : World) (args : Array Value), (callFunc 68 args).run Try.prog w = .ok (.enter 68 args) w := enters Try.func68 (by decide) (fun h => by cases h)

theorem told_ans {c s : Bool} {x : Int} {zs : List Int} (hc : c = true) (hn : Nrm zs) (he : wval s zs = x) :
    (decide (zs.length ≤ 100) && (s && decide (0 < zs.length))) = ansWS c x ∧ decide (zs.length ≤ 100) = ansWB c x ∧ tell zs = ansWL c x := by
  have e1 : wlm x = zs := by rw [← he, wlm_wval s hn.1, ← nrm_limbs hn]
  have e2 : wsg x = (s && decide (0 < zs.length)) := by
    have := wsg_wval s (val zs).toNat
    rw [← nrm_limbs hn, he] at this
    exact this
  unfold ansWS ansWL
  rw [ansWB_yes hc, e1, e2]
  refine ⟨rfl, rfl, ?_⟩
  unfold tell
  by_cases h : zs.length ≤ 100
  · rw [if_pos h, decide_eq_true h, if_pos rfl]
  · rw [if_neg h, decide_eq_false h, if_neg (by simp)]

end Go.Proofs.Ytfikfmkhmojpfaa
