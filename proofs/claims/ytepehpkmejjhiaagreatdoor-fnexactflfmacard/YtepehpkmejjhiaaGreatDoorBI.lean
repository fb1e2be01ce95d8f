/-
  Contracts that the proofs of this seat share: IShS, INat26, IWh2, IWh3.
-/
import Derived.Test.YtepehpkmejjhiaaGreatDoorBH
import Derived.Test.YtepehpkmejjhiaaGreatDoorBG
import Derived.Test.YtepehpkmejjhiaaGreatDoorBC
import Derived.Deep.QuietTactic
import Derived.BigQuiet
import Derived.BigRegion
import Derived.Deep.DeepCutAuto
namespace Go.Proofs.YtepehpkmejjhiaaGreatDoor
open Go.RowKit
set_option linter.unusedVariables false
set_option maxRecDepth 8000
set_option linter.unusedSimpArgs false

set_option maxHeartbeats 8000000 in
theorem shiftUp_S {b g : Nat} {v : Value} {xs : List Int} (w : World) (h : Num b w g v xs) (hx : Lim xs) (hne : xs ≠ []) (nx : xs.length ≤ 50000) (k : Nat) (hk : k ≤ 800000) :
    Calls Tryz.prog 146 #[.pointer (some ⟨g, 0, none⟩), .int .i64 (k : Int)] w fun e w' => (∃ r, e = .returned r) ∧ ∃ u, Num w.heap.size w' g u (limbs ((val xs).toNat * 2 ^ k)) ∧ Mod (fun i => i = g) w w' ∧ SameSide g w w' := by
  obtain ⟨q, s, hs, rfl⟩ : ∃ q s : Nat, s < 16 ∧ k = 16 * q + s := ⟨k / 16, k % 16, by omega, by omega⟩
  obtain ⟨K, hK⟩ : ∃ K : Int, K = ((16 * q + s : Nat) : Int) := ⟨_, rfl⟩
  have e3 : K.tdiv 16 = (q : Int) := by rw [Int.tdiv_eq_ediv_of_nonneg (by omega)]; omega
  have e4 : K.tmod 16 = (s : Int) := by rw [Int.tmod_eq_emod_of_nonneg (by omega)]; omega
  have hq63 : q ≤ 50000 := by omega
  have hKK : 0 ≤ K ∧ K ≤ 800000 := by omega
  rw [← hK]
  obtain ⟨M, hM⟩ : ∃ M, M = xs.length := ⟨_, rfl⟩
  obtain ⟨T, hT⟩ : ∃ T, T = q + M + 1 := ⟨_, rfl⟩
  have hM0 : 0 < M := by rw [hM]; exact List.length_pos_iff.2 hne
  have htot := shl_total xs hx q s
  generalize hA : (val xs).toNat * 2 ^ (16 * q + s) = A at *
  obtain ⟨D, hD⟩ : ∃ D : Int, D = ((2 ^ s : Nat) : Int) := ⟨_, rfl⟩
  rw [← hD] at htot
  have hDp : 0 < D := by rw [hD]; have := Nat.pow_pos (n := s) (show 0 < 2 by decide); omega
  have hDE : D * ((2 ^ (16 - s) : Nat) : Int) = 65536 := by
    rw [hD, ← Int.natCast_mul, ← Nat.pow_add, show s + (16 - s) = 16 by omega]; rfl
  have hDm : D ≤ 65536 := by
    rw [hD]; have := Nat.pow_le_pow_right (n := 2) (by decide) (show s ≤ 16 by omega); omega
  have HTOT := hide htot
  have HDE := hide hDE
  have ep : (2 : Int) ^ s = D := by rw [hD]; simp
  obtain ⟨a1, c1, hv1⟩ := h.form
  rw [← hM] at hv1
  subst hv1
  have hnx : M ≤ 50000 := by omega
  have HM := hide hM
  have HT := hide hT
  have hTT : (q : Int) + (M : Int) + 1 = (T : Int) := by omega
  have hnT : T ≤ 100001 := by omega
  have HA1 := hide ((row_cell h.row).2.2.2)
  have N1 := hide h
  have hz := isZero_impl w h
  rw [decide_eq_false (by omega)] at hz
  have HZ := hide hz
  obtain ⟨i0, hi0, hz0, hz1, hz2⟩ := info_parts Tryz.info3'
  obtain ⟨w2, hrun, hown2, hgrow2⟩ := run_make_full (P := Tryz.prog) w w.heap.size 31 3 i0 (.int .i64 0) 1 Tryz.underlying31 hi0 hz0 hz1 .i64 .i64 T (by rw [hz2]; omega) (by unfold maxLen; omega) (Nat.le_refl _)
  have hf0 := made_fresh (Kept.refl 0 0 w) hown2 hgrow2
  have HF := hide hf0
  have hce1 := hf0.k.cell0 h.cell
  have hce1w := h.cell
  obtain ⟨G, hG0⟩ : ∃ G, G = w.heap.size := ⟨_, rfl⟩
  rw [← hG0] at hrun HF
  have hs0 : ¬ ((s : Int) < 0) := by omega
  have hs64 : (s : Int) < 64 := by omega
  have HEP := hide ep
  clear hown2 hgrow2 hf0 hG0 hi0 hz0 hz1 hz2 htot hDE hD h hz hK hA hT hM nx hne hk ep
  go_enter Tryz.func146, Tryz.ntmps146
  go_wp2_with (go_at_call 83; refine (unhide HZ).mono ?_; rintro e w' ⟨rfl, rfl⟩)
  clear hrun hce1 hce1w
  go_loopw [30] (fun ii wr => ∃ (zs : List Int) (i : Nat), ii = .int .i64 (i : Int) ∧ i ≤ M ∧ zs.length = T ∧ Lim zs ∧ Hid (zs.getD (q + i) 0 ≤ D - 1) ∧ Hid (∀ p, q + i < p → zs.getD p 0 = 0) ∧ Hid (val zs = 65536 ^ q * (val (xs.take i) * D)) ∧ Fresh w' wr (.slice (some ⟨G, 0, none⟩) T T) zs) (fun ii _ => M - (intOf ii).toNat)
  case atStart => exact ⟨List.replicate T 0, 0, rfl, Nat.zero_le _, by simp, Lim.zeros T, by show _ ≤ _; have := Bnd.zeros T (q + 0); omega, fun p _ => by have := Bnd.zeros T p; omega, by show _ = _; rw [val_zeros]; simp [val], unhide HF⟩
  case round =>
    clear HF
    obtain ⟨zs, i, rfl, hi, hs', hlz, hc, hp, hV, hf⟩ := hrel
    by_cases hA : i < M
    · have hi1 : (i : Int) < (M : Int) := by omega
      have hx0 := hx.at i
      obtain ⟨gA, oA, rfl, x1⟩ := unhide HA1 i (by have := unhide HM; omega)
      replace x1 := hf.k.cell0 x1
      have hik : q + i + 1 < T := by have := unhide HT; omega
      obtain ⟨y1, y2⟩ := hf.at hs'.symm (q + i) (by omega)
      obtain ⟨y3, y4⟩ := hf.at hs'.symm (q + i + 1) hik
      have hz1 := unhide hp (q + i + 1) (by omega)
      rw [hz1] at y3
      have hsl := shl_limb hDp (unhide HDE) hx0
      have hput := shl_put zs xs q i D _ (by rw [← unhide HM]; exact hA) (by omega) rfl hz1 (unhide hV)
      have hzc := hlz.at (q + i)
      have hcc := unhide hc
      generalize hva : xs.getD i 0 = va at *
      generalize hvz : zs.getD (q + i) 0 = vz at *
      have hl1 := (hlz.set (q + i) (x := vz + va * D % 65536) (by omega) (by omega)).set (q + i + 1) (x := va * D / 65536) (by omega) (by omega)
      have HL1 := hide hl1
      have HPUT := hide hput
      have hX : 0 ≤ va * D ∧ va * D ≤ 4294967296 := by omega
      have HC2 : Hid (((zs.set (q + i) (vz + va * D % 65536)).set (q + i + 1) (va * D / 65536)).getD (q + (i + 1)) 0 ≤ D - 1) := by
        show _ ≤ _
        rw [show q + (i + 1) = q + i + 1 from rfl, getD_set_eq _ _ _ (by rw [List.length_set]; omega)]
        omega
      have HP2 : Hid (∀ p, q + (i + 1) < p → ((zs.set (q + i) (vz + va * D % 65536)).set (q + i + 1) (va * D / 65536)).getD p 0 = 0) := fun p h => by
        rw [getD_set_ne _ _ _ _ (by omega), getD_set_ne _ _ _ _ (by omega)]; exact unhide hp p (by omega)
      have hls : ((zs.set (q + i) (vz + va * D % 65536)).set (q + i + 1) (va * D / 65536)).length = T := by simpa using hs'
      have HLS := hide hls
      have hpt := (hf.put hs'.symm (q + i) (vz + va * D % 65536))
      have y3' := cell_off _ G (q + i + 1) (q + i) (.int .i64 (vz + va * D % 65536)) _ y3 (by omega)
      have hpt2 := hpt.put (by rw [List.length_set]; exact hs'.symm) (q + i + 1) (va * D / 65536)
      have HPT := hide hpt2
      have hij : (q : Int) + (i : Int) < (T : Int) := by omega
      have hij0 : 0 ≤ (q : Int) + (i : Int) := by omega
      have hij1 : (q : Int) + (i : Int) + 1 < (T : Int) := by omega
      have hij2 : 0 ≤ (q : Int) + (i : Int) + 1 := by omega
      have et : (va * D).tmod 65536 = va * D % 65536 := by rw [Int.tmod_eq_emod_of_nonneg (by omega)]
      have ed : (va * D).tdiv 65536 = va * D / 65536 := by rw [Int.tdiv_eq_ediv_of_nonneg (by omega)]
      have hep := unhide HEP
      clear hV hput hc hp hva hvz hf hs' hls hlz hpt hpt2 hl1 hz1
      go_wp2
      go_roundw
      case rel => exact ⟨_, i + 1, by go_num, by omega, unhide HLS, unhide HL1, HC2, HP2, HPUT, unhide HPT⟩
      case measure => simp [intOf]; omega
    · have hiM : i = M := by omega
      have hi1 : ¬ (i : Int) < (M : Int) := by omega
      have hv := unhide hV
      rw [List.take_of_length_le (by rw [← unhide HM]; omega), unhide HTOT] at hv
      have hlt1 := (unhide N1).lt
      have hG := (hf.own.lt G rfl).1
      have hc1' := hf.k.cell0 (unhide N1).cell
      have hf1' := hf.k.loose0 (a := ⟨g, 0, none⟩) hlt1 (unhide N1).loose
      have hown := hf.own
      rw [hs'] at hown
      have hnum : Num w'.heap.size (wr.setCell ⟨g, 0, none⟩ (.slice (some ⟨G, 0, none⟩) T T)) g (.slice (some ⟨G, 0, none⟩) T T) zs :=
        ⟨cell_on _ _ _ _ _ hc1', by rw [frozen_set]; exact hf1', by rw [hs']; exact own_apart hown (p := ⟨g, 0, none⟩) (by simp [Value.ownBlock]; omega) _, by simp [Value.ownBlock]; omega⟩
      have hmod : Mod (fun i => i = g) w' (wr.setCell ⟨g, 0, none⟩ (.slice (some ⟨G, 0, none⟩) T T)) := Mod.set (S := fun i => i = g) hf.k.toMod (p := ⟨g, 0, none⟩) (.inl rfl) _
      have hsd : SameSide g w' (wr.setCell ⟨g, 0, none⟩ (.slice (some ⟨G, 0, none⟩) T T)) := (hf.k.side hlt1).set0 _
      have SD := hide hsd
      clear hsd
      have NU := hide hnum
      have MO := hide hmod
      have HVV := hide hv
      clear hnum hmod hv hown hf hc hp hV hiM
      go_wp2_with fail
      refine (trim_side _ (unhide NU) hlz).mono ?_
      rintro e w6 ⟨⟨r6, rfl⟩, u6, n6, ho6, m6, sd6⟩
      have N6 := hide n6
      rw [unhide HVV, Int.toNat_natCast] at N6
      have M6 := hide ((unhide MO).trans m6)
      have S6 := hide ((unhide SD).trans sd6)
      clear n6 ho6 m6 sd6
      go_wp2
      exact bodyPost_end (v := .tuple #[]) (by simp [results, Tryz.results146, go_sem]) rfl ⟨⟨_, rfl⟩, _, unhide N6, unhide M6, unhide S6⟩

set_option maxHeartbeats 1000000 in
theorem isZero_work {b g : Nat} {v : Value} {zs : List Int} (w : World) (h : Work b w g v zs) :
    Calls Tryz.prog 83 #[.pointer (some ⟨g, 0, none⟩)] w fun e w' => e = .returned (.bool (decide (zs.length = 0))) ∧ w' = w := by
  have hc := h.cell
  obtain ⟨a1, c1, rfl⟩ := h.form
  clear h
  go_enter Tryz.func83, Tryz.ntmps83
  go_wp2
  go_ret
  refine ⟨?_, rfl⟩
  cases zs with
  | nil => simp
  | cons z t => simp; omega

set_option maxHeartbeats 1000000 in
theorem copied_impl {b g : Nat} {v : Value} {zs : List Int} (w : World) (h : Num b w g v zs) (hlen : zs.length ≤ 1000000) :
    Calls Tryz.prog 161 #[.pointer (some ⟨g, 0, none⟩)] w fun e w' => ∃ v', e = .returned (.agg #[v']) ∧ w'.ownsRow w.heap.size 3 1 v' zs.length (zs.map (Value.int .i64)) ∧ Kept 0 0 w w' := by
  have s1 := h.row.kept ((Kept.refl 0 0 w).alloc (.cells #[.slice none 0 0] 75)) (by omega)
  obtain ⟨a1, c1, rfl⟩ := h.form
  have hce := old_cell (.cells #[.slice none 0 0] 75) h.cell
  clear h
  go_enter Tryz.func161, Tryz.ntmps161
  go_wp2_with fail
  generalize hW : w.alloc (.cells #[.slice none 0 0] 75) = W at *
  have c2' : W.cell? ⟨w.heap.size, 0, none⟩ = some (.slice none 0 0) := by rw [← hW]; exact new_cell_at _ _ _ _ rfl
  have f2' : W.frozen? ⟨w.heap.size, 0, none⟩ = false := by rw [← hW]; exact new_loose _ _ _ _ rfl
  have hs : W.heap.size = w.heap.size + 1 := by rw [← hW]; simp
  have hk : Kept 0 0 w W := by rw [← hW]; exact (Kept.refl 0 0 w).alloc _
  clear hW
  refine (clone_impl _ s1 hlen).mono ?_
  rintro e w6 ⟨v6, rfl, o6, k6⟩
  have c4 := k6.cell0 c2'
  have f4 := k6.loose0 (by simp; omega) f2'
  have O : Hid ((w6.setCell ⟨w.heap.size, 0, none⟩ v6).ownsRow w.heap.size 3 1 v6 zs.length (zs.map (Value.int .i64))) := own_less (ownsRow_setCell_below o6 (a := ⟨w.heap.size, 0, none⟩) (by simp; omega) v6) (by omega)
  have K : Hid (Kept 0 0 w (w6.setCell ⟨w.heap.size, 0, none⟩ v6)) := (hk.trans k6).setNew (p := ⟨w.heap.size, 0, none⟩) (by simp) _
  obtain ⟨a6, c6, rfl⟩ := own_slice o6
  clear s1 c2' f2' hs hk k6 o6 hce
  go_wp2
  exact bodyPost_ret (v := .agg #[.slice a6 zs.length c6]) (by simp [results, Tryz.results161, go_sem, c4]) rfl ⟨_, rfl, unhide O, unhide K⟩

theorem front_set (w : World) (g : Nat) (u : Value) : (w.setCell ⟨g, 1, none⟩ u).cell? ⟨g, 0, none⟩ = w.cell? ⟨g, 0, none⟩ := by
  unfold World.cell? World.setCell
  simp only [Array.getElem?_modify]
  cases hb : w.heap[g]? with
  | none => simp
  | some b => cases b <;> simp
theorem Num.side {b g : Nat} {w : World} {v : Value} {zs : List Int} (h : Num b w g v zs) (u : Value) : Num b (w.setCell ⟨g, 1, none⟩ u) g v zs :=
  ⟨(front_set w g u).trans h.cell, by rw [frozen_set]; exact h.loose, own_apart h.own (p := ⟨g, 1, none⟩) h.apart u, h.apart⟩
theorem Sd.set {w : World} {g : Nat} {s : Bool} (h : Sd w g s) (t : Bool) : Sd (w.setCell ⟨g, 1, none⟩ (.bool t)) g t :=
  ⟨by have := cell_set w g 1 1 (.bool t) (.bool s) h.1; simpa using this, by rw [frozen_set]; exact h.2⟩

theorem in_multiply : ∀ (w : World) (args : Array Value), (callFunc 139 args).run Tryz.prog w = .ok (.enter 139 args) w := enters Tryz.func139 (by decide) (fun h => by cases h)

theorem in_add : ∀ (w : World) (args : Array Value), (callFunc 93 args).run Tryz.prog w = .ok (.enter 93 args) w := enters Tryz.func93 (by decide) (fun h => by cases h)

theorem in_subtract : ∀ (w : World) (args : Array Value), (callFunc 156 args).run Tryz.prog w = .ok (.enter 156 args) w := enters Tryz.func156 (by decide) (fun h => by cases h)

theorem in_compare : ∀ (w : World) (args : Array Value), (callFunc 154 args).run Tryz.prog w = .ok (.enter 154 args) w := enters Tryz.func154 (by decide) (fun h => by cases h)

set_option maxHeartbeats 2000000 in
theorem multiplySigned_tail {b1 b2 g1 g2 : Nat} {v1 v2 : Value} {xs ys : List Int} {s1 s2 : Bool} (w : World) (n1 : Num b1 w g1 v1 xs) (n2 : Num b2 w g2 v2 ys) (d1 : Sd w g1 s1) (d2 : Sd w g2 s2) (hne : g1 ≠ g2) (hx : Lim xs) (hy : Lim ys) (nx : xs.length ≤ 100000) (ny : ys.length ≤ 100000) :
    Calls Tryz.prog 114 #[.pointer (some ⟨g1, 0, none⟩), .pointer (some ⟨g2, 0, none⟩)] w fun e w' => (∃ r, e = .returned r) ∧ ∃ u, Num w.heap.size w' g1 u (limbs (val xs * val ys).toNat) ∧ Sd w' g1 (!(s1 == s2)) ∧ Mod (fun i => i = g1) w w' ∧ SameTail g1 w w' := by
  have kd := (Kept.refl 0 0 w).drew
  have ml := multiply_side w.drew (n1.kept kd) (n2.kept kd) hx hy nx ny
  go_enter Tryz.func114, Tryz.ntmps114
  go_wp2_with fail
  refine wp_region_held_drew (S := (fun _ => True)) (by kernel_rfl) ?_ (fun hHeld => ?_)
  · trivial
  refine wT (i := 0) (v := .pointer (some ⟨g1, 0, none⟩)) rfl (Or.inl ⟨by rfl, ?_⟩) hHeld ?_
  · intro wq hSw
    try dsimp only at hSw
    go_simp
  try simp only [Act.put, zq1, zq2, zq3, zq4, zq5, zq6]
  refine wT (i := 1) (v := .pointer (some ⟨g1, 0, none⟩)) rfl (Or.inl ⟨by rfl, ?_⟩) hHeld ?_
  · intro wq hSw
    try dsimp only at hSw
    go_simp
  try simp only [Act.put, zq1, zq2, zq3, zq4, zq5, zq6]
  refine wT (i := 2) (v := .pointer (some ⟨g1, 0, none⟩)) rfl (Or.inl ⟨by rfl, ?_⟩) hHeld ?_
  · intro wq hSw
    try dsimp only at hSw
    go_simp
  try simp only [Act.put, zq1, zq2, zq3, zq4, zq5, zq6]
  refine wT (i := 3) (v := .pointer (some ⟨g2, 0, none⟩)) rfl (Or.inl ⟨by rfl, ?_⟩) hHeld ?_
  · intro wq hSw
    try dsimp only at hSw
    go_simp
  try simp only [Act.put, zq1, zq2, zq3, zq4, zq5, zq6]
  refine wT (i := 4) (v := .pointer (some ⟨g2, 0, none⟩)) rfl (Or.inl ⟨by rfl, ?_⟩) hHeld ?_
  · intro wq hSw
    try dsimp only at hSw
    go_simp
  try simp only [Act.put, zq1, zq2, zq3, zq4, zq5, zq6]
  refine wT (i := 5) (v := .pointer (some ⟨g2, 0, none⟩)) rfl (Or.inl ⟨by rfl, ?_⟩) hHeld ?_
  · intro wq hSw
    try dsimp only at hSw
    go_simp
  try simp only [Act.put, zq1, zq2, zq3, zq4, zq5, zq6]
  refine wR 6 (by kernel_rfl) rfl (fun KK hK => ?_)
  simp only [zq1, zq2, zq3]
  rw [if_pos (by rfl)]
  refine wps2 139 (.tmp 6) (.tmp 9) _ rfl in_multiply (.pointer (some ⟨g1, 0, none⟩)) (.pointer (some ⟨g2, 0, none⟩)) rfl rfl ml ?_
  rintro e w6 ⟨⟨r6, rfl⟩, u6, n6, m6, sd6⟩
  refine ⟨_, rfl, ?_⟩
  have D1 := hide ((d1.kept kd).same sd6)
  have D2 := hide ((d2.kept kd).same (m6.side (d2.kept kd).lt (fun e => hne e.symm)))
  have hc1 := (unhide D1).1
  have hf1 := (unhide D1).2
  have hc2 := (unhide D2).1
  have SD6 : Hid (SameTail g1 w w6) := SameSide.tail sd6
  have N6 := hide n6
  have M6 := hide m6
  clear n1 n2 d1 d2 n6 m6 sd6 ml
  clear hHeld
  refine hK.out _ _ ?_ (fun hHeld => ?_)
  · trivial
  clear hK KK
  try simp only [Act.put, zq1, zq2, zq3, zq4, zq5, zq6]
  refine wpAnyH_done (by kernel_rfl) ?_ _
  clear hHeld
  go_wp2
  go_region
  go_wp2
  exact bodyPost_end (v := .tuple #[]) (by simp [results, Tryz.results114, go_sem]) rfl ⟨⟨_, rfl⟩, _, ((unhide N6).kept (Kept.refl 0 0 _).drew).side _, ((unhide D1).kept (Kept.refl 0 0 _).drew).set _, Mod.set (S := fun i => i = g1) ((kd.toMod.trans (unhide M6)).kept (Kept.refl 0 0 _).drew) (p := ⟨g1, 1, none⟩) (.inl rfl) _, (unhide SD6).drew.set1 _⟩

theorem own_base {w : World} {b b' n : Nat} {e : TypeId} {v : Value} {xs : List Value} (h : w.ownsRow b e 1 v n xs) (hb : ∀ i, v.ownBlock = some i → b' ≤ i) : w.ownsRow b' e 1 v n xs := by
  refine ⟨h.1, ?_⟩
  rcases h.2 with hn | ⟨g, cap, cur, rfl, h1, rest⟩
  · exact .inl hn
  · exact .inr ⟨g, cap, cur, rfl, hb g rfl, rest⟩
/-- Two numbers with signs, apart, newer than w0. -/
structure Sig2 (w0 w : World) (g1 g2 : Nat) (s1 : Bool) (xs : List Int) (s2 : Bool) (ys : List Int) : Prop where
  two : ∃ u1 u2, Two w0 w g1 g2 u1 u2 xs ys
  d1 : Sd w g1 s1
  d2 : Sd w g2 s2

set_option maxHeartbeats 2000000 in
theorem subtractFrom_impl {w0 w : World} {g1 g2 : Nat} {u1 u2 : Value} {xs ys : List Int} (t : Two w0 w g1 g2 u1 u2 xs ys) (hx : Nrm xs) (hy : Nrm ys) (hl1 : ys.length ≤ 100000) (hle : val xs ≤ val ys) :
    Calls Tryz.prog 155 #[.pointer (some ⟨g1, 0, none⟩), .pointer (some ⟨g2, 0, none⟩)] w fun e w' => (∃ r, e = .returned r) ∧ (∃ u, Num w.heap.size w' g1 u (limbs (val ys - val xs).toNat)) ∧ SameSide g1 w w' ∧ Mod (fun i => i = g1) w w' := by
  go_enter Tryz.func155, Tryz.ntmps155
  go_wp2_with fail
  refine (copied_impl _ t.n2 (by omega)).mono ?_
  rintro e w2 ⟨v2, rfl, o2, k2⟩
  have hl := o2.lt
  have n3 := Num.new 75 o2
  have kk := k2.alloc (.cells #[v2] 75)
  have lg := t.n1.lt
  have hs := k2.size
  have ht := t.k.size
  have t3 : Two w0 (w2.alloc (.cells #[v2] 75)) w2.heap.size g1 v2 u1 ys xs :=
    ⟨n3.less ht, t.n1.kept kk, by omega, fun e => by have := (hl _ e).1; omega, fun e => by have := (t.n1.own.lt _ e).2; omega, fun k e1 e2 => by have := (hl _ e1).1; have := (t.n1.own.lt _ e2).2; omega, t.k.trans kk, by omega, t.b1⟩
  obtain ⟨a2, c2, rfl⟩ := own_slice o2
  have ts := t3.startS
  have ob : ∀ i, (Value.slice a2 ys.length c2).ownBlock = some i → w.heap.size ≤ i := fun i e => (hl i e).1
  have KK := hide kk
  have T := hide t
  have OB := hide ob
  clear n3 t3 o2 k2 hl ob kk t
  go_wp2_with fail
  generalize w2.alloc (.cells #[.slice a2 ys.length c2] 75) = W3 at *
  refine (subtract_twoS ⟨_, _, ts⟩ hy hx hl1 hle).mono ?_
  rintro e w6 ⟨⟨r6, rfl⟩, v6, v6', t6⟩
  have c6 := t6.n1.cell
  have c7 := t6.n2.cell
  have f7 := t6.n2.loose
  have o6 := t6.n1.own
  have ap := t6.two.o12
  have TT := hide t6
  obtain ⟨a6, d6, hv⟩ := own_slice o6
  generalize hzz : limbs (val ys - val xs).toNat = zz at *
  subst hv
  obtain ⟨a7, d7, hv⟩ := (unhide TT).n2.form
  subst hv
  have hne : g1 ≠ w2.heap.size := by omega
  have hb6 : ∀ i, (Value.slice a6 zz.length d6).ownBlock = some i → w.heap.size ≤ i := fun i e => by
    rcases (unhide TT).ob i e with h | h
    · exact unhide OB i h
    · have := (unhide KK).size; omega
  have HN : Hid (∀ n, Num w.heap.size ((w6.drewN n).setCell ⟨g1, 0, none⟩ (.slice a6 zz.length d6)) g1 (.slice a6 zz.length d6) zz) := fun n =>
    ⟨cell_on _ _ _ _ _ c7, by rw [frozen_set]; exact f7, own_apart (own_base o6 hb6) (p := ⟨g1, 0, none⟩) (fun e => ap e) _, fun e => ap e⟩
  have HS : Hid (∀ n, SameSide g1 w ((w6.drewN n).setCell ⟨g1, 0, none⟩ (.slice a6 zz.length d6))) := fun n => ((((unhide KK).side lg).trans ((unhide TT).m.side (by have := (unhide KK).size; omega) (fun e => e.elim (fun e => hne e) (fun e => by have := unhide OB _ e; omega)))).drewN n).set0 _
  have HM : Hid (∀ n, Mod (fun i => i = g1) w ((w6.drewN n).setCell ⟨g1, 0, none⟩ (.slice a6 zz.length d6))) := fun n => Mod.set (S := fun i => i = g1) ((Mod.then (S := fun i => i = g1) (unhide KK).toMod (unhide TT).m (fun i e => e.elim (fun e => by omega) (fun e => .inr (unhide OB _ e)))).drewN n) (p := ⟨g1, 0, none⟩) (.inl rfl) _
  have HZ := hide hzz
  clear o6 ap t6 ts hzz hb6 TT
  go_wp2_with fail
  exact bodyPost_end (v := .tuple #[]) (by simp [results, Tryz.results155, go_sem]) rfl ⟨⟨_, rfl⟩, ⟨_, by rw [unhide HZ]; exact unhide HN 0⟩, unhide HS 0, unhide HM 0⟩

end Go.Proofs.YtepehpkmejjhiaaGreatDoor

