/-
  The walk of the law FnNatTexts: it returns true at every code.
-/
import Derived.Test.YtmmlembpfmichaaTxO
import Derived.Test.YtmmlembpfmichaaTxtN
import Derived.Test.YtmmlembpfmichaaDrawN3
import Derived.Test.YtmmlembpfmichaaLawN
import Derived.Test.YtmmlembpfmichaaDig3
import Derived.Test.YtmmlembpfmichaaINat25
import Derived.Lib.OthersKept
import Derived.WalkSmall
namespace Go.Proofs.Ytmmlembpfmichaa
open Go.RowKit
set_option linter.unusedVariables false
set_option maxRecDepth 8000
set_option linter.unusedSimpArgs false

theorem tdig_lead : ∀ (n : Nat), n ≠ 0 → ∃ z t, (tdig n).reverse = z :: t ∧ z ≠ 48 := by
  intro n
  induction n using Nat.strongRecOn with
  | ind n ih =>
    intro h
    rw [tdig_step h, List.reverse_cons]
    by_cases h1 : n / 10 = 0
    · rw [h1, tdig_zero]
      exact ⟨_, _, rfl, by omega⟩
    · obtain ⟨z, t, e, hz⟩ := ih (n / 10) (by omega) h1
      rw [e]
      exact ⟨z, t ++ [_], rfl, hz⟩
theorem readOk_text {n : Nat} (hl : (decText n).length ≤ 400) : readOk (decText n) = true := by
  refine readOk_yes hl (isDig_decText n) ?_
  rintro ⟨h1, h2⟩
  unfold decText at h1 h2
  by_cases h : n = 0
  · rw [if_pos h] at h1; simp at h1
  · rw [if_neg h] at h2
    obtain ⟨z, t, e, hz⟩ := tdig_lead n h
    rw [e] at h2
    exact hz h2
theorem tdig_digs : ∀ (k : Nat) (ds : List Int), ds.length = k → (∀ z ∈ ds, 48 ≤ z ∧ z ≤ 57) → (ds = [] ∨ ds.getD 0 0 ≠ 48) → tdig (digN ds) = ds.reverse
  | 0, ds, hk, hm, h0 => by rw [List.length_eq_zero_iff.1 hk]; rfl
  | k + 1, ds, hk, hm, h0 => by
    obtain ⟨init, z, rfl⟩ : ∃ init z, ds = init ++ [z] := ⟨ds.dropLast, ds.getLast (by intro e; rw [e] at hk; simp at hk), (List.dropLast_concat_getLast _).symm⟩
    have hz := hm z (by simp)
    have hi : ∀ y ∈ init, 48 ≤ y ∧ y ≤ 57 := fun y hy => hm y (by simp [hy])
    rw [digN_snoc, List.reverse_append, List.reverse_singleton, List.singleton_append]
    by_cases he : init = []
    · subst he
      have hz48 : z ≠ 48 := by rcases h0 with h | h; · simp at h
                               simpa using h
      have hd : digN [] = 0 := rfl
      rw [hd, tdig_step (by omega), show (10 * 0 + (z - 48).toNat) / 10 = 0 by omega, tdig_zero]
      simp
      omega
    · have hlen : init.length = k := by simpa using hk
      have hf : init.getD 0 0 ≠ 48 := by
        rcases h0 with h | h
        · simp at h
        · cases init with
          | nil => exact absurd rfl he
          | cons a t => simpa using h
      have ih := tdig_digs k init hlen hi (.inr hf)
      have hne : digN init ≠ 0 := by
        intro e
        rw [e, tdig_zero] at ih
        exact he (by simpa using ih.symm)
      rw [tdig_step (by omega), show (10 * digN init + (z - 48).toNat) / 10 = digN init by omega, ih, show (10 * digN init + (z - 48).toNat) % 10 = (z - 48).toNat by omega]
      congr 1
      omega
theorem read_back {bs : List Int} (h : readOk bs = true) : decText (digN bs) = bs := by
  unfold readOk at h
  simp only [Bool.and_eq_true, decide_eq_true_eq, Bool.not_eq_true', Bool.and_eq_false_iff, decide_eq_false_iff_not] at h
  obtain ⟨⟨h1, h2⟩, h3⟩ := h
  have hm : ∀ z ∈ bs, 48 ≤ z ∧ z ≤ 57 := by
    have h4 := h2
    unfold isDig at h4
    simp only [Bool.and_eq_true, List.all_eq_true, decide_eq_true_eq] at h4
    exact h4.2
  have hne : bs ≠ [] := by intro e; rw [e, isDig_nil rfl] at h2; cases h2
  by_cases h0 : bs.getD 0 0 = 48
  · cases bs with
    | nil => exact absurd rfl hne
    | cons a t =>
      have hl : t = [] := by
        rcases h3 with h | h
        · simp at h; exact h
        · exact absurd h0 h
      have ha : a = 48 := by simpa using h0
      subst hl ha
      rfl
  · have e := tdig_digs bs.length bs rfl hm (.inr h0)
    have hd : digN bs ≠ 0 := by
      intro e0
      rw [e0, tdig_zero] at e
      exact hne (by simpa using e.symm)
    unfold decText
    rw [if_neg hd, e, List.reverse_reverse]
theorem ans_no {c : Bool} {n : Nat} (h : ansB c n = false) : ansL c n = [] := by
  cases c
  · exact ansL_no rfl
  · rw [ansB_yes rfl] at h
    rw [ansL_yes rfl]
    unfold tell
    rw [if_neg (of_decide_eq_false h)]
theorem ans_yes' {c : Bool} {n : Nat} (h : ansB c n = true) : c = true ∧ ansL c n = limbs n ∧ okB (limbs n) = true := by
  cases hc : c
  · rw [hc] at h; unfold ansB at h; cases h
  · rw [hc, ansB_yes rfl] at h
    have hl := of_decide_eq_true h
    exact ⟨rfl, by rw [ansL_yes rfl]; exact tell_short hl, (okB_iff _).2 ⟨hl, limbs_nrm _⟩⟩
theorem text_read {xs : List Int} (o : okB xs = true) (hl : (ntx xs).length ≤ 400) : ansB (readOk (ntx xs)) (digN (ntx xs)) = true ∧ ansL (readOk (ntx xs)) (digN (ntx xs)) = xs := by
  have e : ntx xs = decText (val xs).toNat := by unfold ntx; rw [if_pos o]
  obtain ⟨l1, n1⟩ := (okB_iff xs).1 o
  have ex : limbs (val xs).toNat = xs := (nrm_limbs n1).symm
  rw [e] at hl ⊢
  rw [readOk_text hl, digN_decText, ansB_yes rfl, ansL_yes rfl, ex]
  exact ⟨decide_eq_true l1, tell_short l1⟩
theorem read_text {bs AL : List Int} (h : ansB (readOk bs) (digN bs) = true) (hl : ansL (readOk bs) (digN bs) = AL) : ntx AL = bs := by
  obtain ⟨h1, h2, h3⟩ := ans_yes' h
  rw [h2] at hl
  subst hl
  unfold ntx
  rw [if_pos h3, limbs_val, Int.toNat_natCast, read_back h1]
theorem Kept.newR {lo hi : Nat} {a b c : World} (h : Kept 0 0 a b) (k : Kept lo hi b c) (hl : a.heap.size ≤ lo) : Kept 0 0 a c :=
  ⟨k.os.trans h.os, k.tape.trans h.tape, k.output.trans h.output, Nat.le_trans h.size k.size, fun q hq hn => (k.block q (Nat.lt_of_lt_of_le hq h.size) (by omega)).trans (h.block q hq (by omega))⟩

theorem row_string {P : Program} {bw : Bool} {lo hi : Nat} {v : Value} {zs : List Int} (w : World) (ts e tt : TypeId) (h1 : P.underlying ts = some (.slice e)) (h2 : P.underlying e = some (.int .u8)) (h3 : P.underlying tt = some .string)
    (r : Row .u8 bw lo hi w v zs) : (convert ts tt v).run P w = .ok (.string (strOfNums zs)) w := by
  obtain ⟨a, c, rfl, q1, m1, q3⟩ := r
  by_cases hz : zs = []
  · subst hz
    cases a with
    | none => exact run_convert_bytes_nil w ts e h1 h2 _ _ tt h3
    | some a =>
      rw [run_convert_bytes_string w ts tt e _ _ _ h1 h2 h3]
      show (Conv.bytesToString (.slice (some a) 0 c)).run P w = _
      rw [run_bytesToString w a 0 c [] (by have := run_loadCells_list (P := P) w a [] (fun j u hj => by simp at hj); simpa using this)]
      rfl
  · obtain ⟨g, off, rfl, _, _, _, hc, _⟩ := q3 hz
    exact run_convert_bytes_arg w ts e h1 h2 g off zs.length c zs rfl hc tt h3

theorem sameBytes_same {b1 b2 : Bool} {l1 h1 l2 h2 : Nat} {v1 v2 : Value} {xs : List Int} (w : World) (r1 : Row .u8 b1 l1 h1 w v1 xs) (r2 : Row .u8 b2 l2 h2 w v2 xs) :
    Calls Try.prog 11 #[v1, v2] w fun e w' => e = .returned (.bool true) ∧ Kept 0 0 w w' := by
  have c1 := row_string (P := Try.prog) w 22 5 9 Try.underlying22 Try.underlying5 Try.underlying9 r1
  have c2 := row_string (P := Try.prog) w 22 5 9 Try.underlying22 Try.underlying5 Try.underlying9 r2
  go_enter Try.func11, Try.ntmps11
  go_wp2
  go_ret
  exact ⟨by simp, Kept.refl _ _ _⟩

set_option maxHeartbeats 4000000 in
theorem drawText_any {bw : Bool} {lo hi : Nat} {v : Value} {bs : List Int} (w : World) (r : Row .u8 bw lo hi w v bs) (b : Bytes bs) :
    Calls Try.prog 4 #[v] w fun e w' => ∃ v1 zs, e = .returned (.agg #[v1]) ∧ Row .i64 true w.heap.size w'.heap.size w' v1 zs ∧ Kept 0 0 w w' := by
  have k0 := (Kept.refl 0 0 w).alloc (.cells #[.slice none 0 0] 25)
  have q := r.kept k0 (by omega)
  have c1 : (w.alloc (.cells #[.slice none 0 0] 25)).cell? ⟨w.heap.size, 0, none⟩ = some (.slice none 0 0) := new_cell_at _ _ _ _ rfl
  have f1 : (w.alloc (.cells #[.slice none 0 0] 25)).frozen? ⟨w.heap.size, 0, none⟩ = false := new_loose _ _ _ _ rfl
  have hs : (w.alloc (.cells #[.slice none 0 0] 25)).heap.size = w.heap.size + 1 := by simp
  obtain ⟨a0, d0, rfl⟩ := Row.form' r
  clear r
  go_enter Try.func4, Try.ntmps4
  go_wp2_with fail
  generalize w.alloc (.cells #[.slice none 0 0] 25) = W at *
  refine (l1New_any _ q b).mono ?_
  rintro e w1 ⟨g, rfl, hg, cu, k1⟩
  replace f1 := k1.loose0 (World.block_lt_of_cell? _ _ c1) f1
  replace c1 := k1.cell0 c1
  replace k0 := k0.trans k1
  have hg2 : w.heap.size + 1 ≤ g := by omega
  clear k1 q hs hg
  generalize W.heap.size = LO at *
  go_wp2_with fail
  refine (bent_any g LO _ cu).mono ?_
  rintro e w2 ⟨v2, rfl, zs, o2, hz, hl, d2⟩
  obtain ⟨a2, e2, ev⟩ := own_slice o2
  subst ev
  have hgl : g < w1.heap.size := cu.1
  have lt1 := World.block_lt_of_cell? _ _ c1
  dsimp only at lt1
  have rA := Row.own o2
  have fr : w2.frozen? ⟨w.heap.size, 0, none⟩ = false := by
    have e := d2.2.block w.heap.size lt1 (by omega)
    rw [show w2.frozen? ⟨w.heap.size, 0, none⟩ = w1.frozen? ⟨w.heap.size, 0, none⟩ by simp only [World.frozen?, e]]
    exact f1
  replace c1 := d2.2.cellOut (.inl (show w.heap.size < g by omega)) c1
  replace k0 := k0.newR d2.2 (by omega)
  clear o2 d2 cu f1
  have R : Hid (Row .i64 true w.heap.size (w2.setCell ⟨w.heap.size, 0, none⟩ (.slice a2 zs.length e2)).heap.size (w2.setCell ⟨w.heap.size, 0, none⟩ (.slice a2 zs.length e2)) (.slice a2 zs.length e2) zs) := ((rA.set_other (p := ⟨w.heap.size, 0, none⟩) (.inl (show w.heap.size < w1.heap.size by omega)) _).tight.wider (by omega) (Nat.le_refl _))
  have K := hide (k0.setNew (p := ⟨w.heap.size, 0, none⟩) (Nat.le_refl _) (.slice a2 zs.length e2))
  clear rA k0
  go_wp2_with fail
  exact bodyPost_ret (v := .agg #[.slice a2 zs.length e2]) (by simp [results, Try.results4, go_sem, c1]) rfl ⟨_, _, rfl, unhide R, unhide K⟩

set_option maxHeartbeats 8000000 in
theorem drawRead_any {bw : Bool} {lo hi : Nat} {v : Value} {bs : List Int} (w : World) (r : Row .u8 bw lo hi w v bs) (b : Bytes bs) :
    Calls Try.prog 9 #[v] w fun e w' => ∃ v' cs, e = .returned v' ∧ Row .u8 true w.heap.size w'.heap.size w' v' cs ∧ Kept 0 0 w w' := by
  obtain ⟨i0, hi0, hz0, hz1, hz2⟩ := info_parts Try.info5
  obtain ⟨a0, d0, rfl⟩ := Row.form' r
  go_enter Try.func9, Try.ntmps9
  go_wp2_with fail
  refine (l1New_any _ r b).mono ?_
  rintro e w1 ⟨g, rfl, hg, cu, k1⟩
  clear r
  obtain ⟨LO, hLO⟩ : ∃ y, w.heap.size = y := ⟨_, rfl⟩
  rw [hLO] at cu
  have HLO := hide hLO
  have hwg : w.heap.size ≤ g := hg
  clear hLO hg
  go_wp2_with fail
  refine (draw_any g LO _ cu).mono ?_
  rintro e w2 ⟨v2, rfl, ns, o2, hn, hl, d2⟩
  have K := hide (k1.newR d2.2 hwg)
  have hg1 : g < w1.heap.size := cu.1
  have hs2 := d2.2.size
  replace cu := d2.1
  clear k1 d2
  have rn := Row.own o2
  clear o2
  go_wp2_with fail
  have mt := text_own w2 rn hn (by omega)
  obtain ⟨bs1, hb1⟩ : ∃ y, decText (val ns).toNat = y := ⟨_, rfl⟩
  have hne : bs1 ≠ [] := by rw [← hb1]; exact decText_some _
  have hl1 : bs1.length ≤ 1600 := by rw [← hb1]; exact decText_len ((okB_iff ns).2 ⟨hl, hn⟩)
  rw [hb1] at mt
  clear hb1 hn hl rn
  refine mt.mono ?_
  rintro e w3 ⟨v3, rfl, O, k3⟩
  clear mt
  obtain ⟨B, hB⟩ : ∃ y, w2.heap.size = y := ⟨_, rfl⟩
  rw [hB] at O
  have hgB : g < B := by omega
  have hwB : w.heap.size ≤ B := by omega
  have hBs : B ≤ w3.heap.size := by have := k3.size; omega
  replace cu := cu.kept k3 (by omega)
  replace K := hide ((unhide K).trans k3)
  clear k3 hB hs2 hg1
  obtain ⟨a3, c3, hv⟩ := O.form
  subst hv
  go_wp2_with fail
  refine (l1Once_any g LO _ cu 4).mono ?_
  rintro e w4 ⟨b4, rfl, dd⟩
  replace O := O.drew dd.2.1 hgB
  replace K := hide ((unhide K).newR dd.2.1 hwg)
  replace cu := dd.1
  replace hBs : B ≤ w4.heap.size := by rw [dd.2.2]; exact hBs
  clear dd
  cases b4
  · go_wp2_with fail
    refine (l1Once_any g LO _ cu 8).mono ?_
    rintro e w5 ⟨b5, rfl, dd⟩
    replace O := O.drew dd.2.1 hgB
    replace K := hide ((unhide K).newR dd.2.1 hwg)
    replace cu := dd.1
    replace hBs : B ≤ w5.heap.size := by rw [dd.2.2]; exact hBs
    clear dd
    cases b5
    · go_wp2_with fail
      refine (l1Once_any g LO _ cu 30).mono ?_
      rintro e w6 ⟨b6, rfl, dd⟩
      replace O := O.drew dd.2.1 hgB
      replace K := hide ((unhide K).newR dd.2.1 hwg)
      replace cu := dd.1
      replace hBs : B ≤ w6.heap.size := by rw [dd.2.2]; exact hBs
      clear dd
      cases b6
      · go_wp2_with fail
        go_ret
        exact ⟨_, _, rfl, O.row.wider hwB (Nat.le_refl _), unhide K⟩
      have hcl : bs1.length ≤ 1700 := by omega
      have O0 := hide O
      have K0 := hide (unhide K)
      clear O K cu
      go_wp2_with fail
      go_loopw [4] (fun bv wx => ∃ (cs : List Int), OwnT B wx bv cs ∧ cs.length ≤ 1700 ∧ B ≤ wx.heap.size ∧ Kept 0 0 w wx) (fun bv _ => 401 - lenV bv)
      case atStart => exact ⟨_, unhide O0, hcl, hBs, unhide K0⟩
      case round =>
        clear O0 K0 hBs hcl
        obtain ⟨cs, O, hcl, hBs, kx⟩ := hrel
        obtain ⟨ax, cx, hv⟩ := O.form
        subst hv
        by_cases hle : cs.length ≤ 400
        · have hle' : (cs.length : Int) ≤ 400 := by omega
          have kA := (Kept.refl 0 0 wr).alloc (.cells #[.int .u8 55] 5)
          have cA : (wr.alloc (.cells #[.int .u8 55] 5)).cell? ⟨wr.heap.size, 0, none⟩ = some (.int .u8 55) := new_cell_at _ _ _ _ rfl
          have OA := hide (O.kept kA)
          have CA := hide cA
          have hBA : Hid (B ≤ (wr.alloc (.cells #[.int .u8 55] 5)).heap.size) := by show _ ≤ _; simp; omega
          have hlA : Hid (cs.length ≤ 2000000) := by show _ ≤ _; omega
          have KA := hide (kx.trans kA)
          clear O cA kA kx
          go_wp2_with (at_builtin; refine wpList_byteT rfl _ _ rfl rfl _ rfl 55 (unhide CA) (unhide OA) (unhide hBA) (unhide hlA) ?_)
          intro v9 w9 hown hK hkb
          have KB := hide (hK w 0 0 (unhide KA) hwB)
          have hB9 : Hid (B ≤ w9.heap.size) := Nat.le_trans (unhide hBA) hkb.size
          obtain ⟨a9, c9, hv⟩ := own_slice hown
          have ON := hide hown
          subst hv
          clear hown hK hkb
          go_wp2
          go_roundw
          case rel => exact ⟨cs ++ [55], .inl (by simpa using unhide ON), by simp; omega, unhide hB9, unhide KB⟩
          case measure => simp [lenV]; omega
        · have hle' : ¬ (cs.length : Int) ≤ 400 := by omega
          have RR := hide (O.row.wider hwB (Nat.le_refl _))
          have KX := hide kx
          clear O kx
          go_wp2_with fail
          go_ret
          first | exact ⟨_, _, rfl, unhide RR, unhide KX⟩ | exact ⟨_, rfl, ⟨_, unhide RR⟩, unhide KX⟩
    have kA := (Kept.refl 0 0 w5).alloc (.cells #[.int .u8 48] 5)
    have o1 := own_lit .u8 w5 5 B hBs [48] (by simp [maxLen])
    simp at o1
    obtain ⟨g5, f5, c5, e5, -, -, hnews⟩ := (O.row.kept kA (by omega)).news hne
    cases e5
    have hlk : (bs1.map (Value.int .u8)).length = bs1.length * 1 := by simp
    have HN := hide hnews
    have O1 := hide o1
    have HB : Hid (B ≤ (w5.alloc (.cells #[.int .u8 48] 5)).heap.size) := by show _ ≤ _; simp; omega
    have c3' : 1 + bs1.length ≤ maxLen := by unfold maxLen; omega
    have c4' : (1 + bs1.length) * 1 ≤ 140737488355328 := by omega
    have C3 := hide c3'
    have C4 := hide c4'
    clear hnews o1 c3' c4'
    go_wp2_with (at_builtin; refine wpList_append_own _ rfl _ _ 22 rfl B 5 i0 (.int .u8 0) 1 1 Try.underlying22 hi0 hz0 hz1 hz2 rfl (by decide) _ _ _ rfl (unhide O1) ⟨g5, f5, none⟩ bs1.length _ (bs1.map (Value.int .u8)) rfl hlk (unhide HN) (ints_one _ _) (unhide C3) (unhide C4) (unhide HB) ?_)
    intro v6 w6 hown hgrow _
    have hkb := Kept.grown (lo := w5.heap.size) (hi := w5.heap.size + 1) hgrow (fun q hq => by simp [Value.ownBlock] at hq; omega)
    replace K := hide (((unhide K).trans kA).growNew hgrow (fun q hq => by simp [Value.ownBlock] at hq; have := (unhide K).size; omega))
    replace cu := (cu.kept kA (by omega)).kept hkb (.inl (by omega))
    have hB2 : B ≤ w6.heap.size := Nat.le_trans (unhide HB) hkb.size
    obtain ⟨bz, hnew⟩ : ∃ y, 48 :: bs1 = y := ⟨_, rfl⟩
    replace O : OwnT B w6 v6 bz := .inl (by rw [← hnew, show (48 :: bs1 : List Int).length = 1 + bs1.length by simp; omega]; exact hown)
    have hl_bz : bz.length ≤ bs1.length + 1 := by rw [← hnew]; simp
    replace hBs := hB2
    clear hown hgrow hkb kA O1 HN HB C3 C4 hnew hlk hB2
    obtain ⟨a6, c6, hv⟩ := O.form
    subst hv
    go_wp2_with fail
    refine (l1Once_any g LO _ cu 30).mono ?_
    rintro e w7 ⟨b7, rfl, dd⟩
    replace O := O.drew dd.2.1 hgB
    replace K := hide ((unhide K).newR dd.2.1 hwg)
    replace cu := dd.1
    replace hBs : B ≤ w7.heap.size := by rw [dd.2.2]; exact hBs
    clear dd
    cases b7
    · go_wp2_with fail
      go_ret
      exact ⟨_, _, rfl, O.row.wider hwB (Nat.le_refl _), unhide K⟩
    have hcl : bz.length ≤ 1701 := by omega
    have O0 := hide O
    have K0 := hide (unhide K)
    clear O K cu
    go_wp2_with fail
    go_loopw [4] (fun bv wx => ∃ (cs : List Int), OwnT B wx bv cs ∧ cs.length ≤ 1701 ∧ B ≤ wx.heap.size ∧ Kept 0 0 w wx) (fun bv _ => 401 - lenV bv)
    case atStart => exact ⟨_, unhide O0, hcl, hBs, unhide K0⟩
    case round =>
      clear O0 K0 hBs hcl
      obtain ⟨cs, O, hcl, hBs, kx⟩ := hrel
      obtain ⟨ax, cx, hv⟩ := O.form
      subst hv
      by_cases hle : cs.length ≤ 400
      · have hle' : (cs.length : Int) ≤ 400 := by omega
        have kA := (Kept.refl 0 0 wr).alloc (.cells #[.int .u8 55] 5)
        have cA : (wr.alloc (.cells #[.int .u8 55] 5)).cell? ⟨wr.heap.size, 0, none⟩ = some (.int .u8 55) := new_cell_at _ _ _ _ rfl
        have OA := hide (O.kept kA)
        have CA := hide cA
        have hBA : Hid (B ≤ (wr.alloc (.cells #[.int .u8 55] 5)).heap.size) := by show _ ≤ _; simp; omega
        have hlA : Hid (cs.length ≤ 2000000) := by show _ ≤ _; omega
        have KA := hide (kx.trans kA)
        clear O cA kA kx
        go_wp2_with (at_builtin; refine wpList_byteT rfl _ _ rfl rfl _ rfl 55 (unhide CA) (unhide OA) (unhide hBA) (unhide hlA) ?_)
        intro v9 w9 hown hK hkb
        have KB := hide (hK w 0 0 (unhide KA) hwB)
        have hB9 : Hid (B ≤ w9.heap.size) := Nat.le_trans (unhide hBA) hkb.size
        obtain ⟨a9, c9, hv⟩ := own_slice hown
        have ON := hide hown
        subst hv
        clear hown hK hkb
        go_wp2
        go_roundw
        case rel => exact ⟨cs ++ [55], .inl (by simpa using unhide ON), by simp; omega, unhide hB9, unhide KB⟩
        case measure => simp [lenV]; omega
      · have hle' : ¬ (cs.length : Int) ≤ 400 := by omega
        have RR := hide (O.row.wider hwB (Nat.le_refl _))
        have KX := hide kx
        clear O kx
        go_wp2_with fail
        go_ret
        first | exact ⟨_, _, rfl, unhide RR, unhide KX⟩ | exact ⟨_, rfl, ⟨_, unhide RR⟩, unhide KX⟩
  go_wp2_with fail
  have hr := Row.lit .i64 w4 3 [48, 120, 32, 45] (by simp [maxLen])
  have kA := (Kept.refl 0 0 w4).alloc (.cells ([48, 120, 32, 45].map (Value.int .i64)).toArray 3)
  refine (l1PickInt_any g LO _ (cu.kept kA (by omega)) hr (by simp) (by omega)).mono ?_
  rintro e w5 ⟨x, rfl, hx, dd⟩
  have hx2 : 0 ≤ x ∧ x ≤ 255 := by
    simp only [List.mem_cons, List.not_mem_nil, or_false] at hx
    omega
  have hx8 : IntKind.u8.wrap x = x := byte_small hx2.1 hx2.2
  replace O := (O.kept kA).drew dd.2.1 hgB
  replace K := hide (((unhide K).trans kA).newR dd.2.1 hwg)
  replace cu := dd.1
  replace hBs : B ≤ w5.heap.size := by rw [dd.2.2]; simp; omega
  clear dd hr kA hx
  have kA := (Kept.refl 0 0 w5).alloc (.cells #[.int .u8 x] 5)
  have cA : (w5.alloc (.cells #[.int .u8 x] 5)).cell? ⟨w5.heap.size, 0, none⟩ = some (.int .u8 x) := new_cell_at _ _ _ _ rfl
  have OA := hide (O.kept kA)
  have CA := hide cA
  have hBA : Hid (B ≤ (w5.alloc (.cells #[.int .u8 x] 5)).heap.size) := by show _ ≤ _; simp; omega
  have hlA : Hid (bs1.length ≤ 2000000) := by show _ ≤ _; omega
  go_wp2_with (at_builtin; refine wpList_byteT rfl _ _ rfl rfl _ rfl x (unhide CA) (unhide OA) (unhide hBA) (unhide hlA) ?_)
  intro v6 w6 hown hK hkb
  replace K := hide (hK w 0 0 ((unhide K).trans kA) hwB)
  replace cu := (cu.kept kA (by omega)).kept hkb (.inl hgB)
  replace hBs : B ≤ w6.heap.size := Nat.le_trans (unhide hBA) hkb.size
  obtain ⟨bs2, hnew⟩ : ∃ y, bs1 ++ [x] = y := ⟨_, rfl⟩
  have hown' : w6.ownsRow B 5 1 v6 bs2.length (bs2.map (Value.int .u8)) := by rw [← hnew]; simpa using hown
  have hl_bs2 : bs2.length ≤ bs1.length + 1 := by rw [← hnew]; simp
  have hne_bs2 : bs2 ≠ [] := by rw [← hnew]; simp
  replace O : OwnT B w6 v6 bs2 := .inl hown'
  clear hown hown' hK hkb kA cA OA CA hBA hlA hnew
  obtain ⟨a6, c6, hv⟩ := O.form
  subst hv
  go_wp2_with fail
  refine (l1Once_any g LO _ cu 8).mono ?_
  rintro e w7 ⟨b7, rfl, dd⟩
  replace O := O.drew dd.2.1 hgB
  replace K := hide ((unhide K).newR dd.2.1 hwg)
  replace cu := dd.1
  replace hBs : B ≤ w7.heap.size := by rw [dd.2.2]; exact hBs
  clear dd
  cases b7
  · go_wp2_with fail
    refine (l1Once_any g LO _ cu 30).mono ?_
    rintro e w8 ⟨b8, rfl, dd⟩
    replace O := O.drew dd.2.1 hgB
    replace K := hide ((unhide K).newR dd.2.1 hwg)
    replace cu := dd.1
    replace hBs : B ≤ w8.heap.size := by rw [dd.2.2]; exact hBs
    clear dd
    cases b8
    · go_wp2_with fail
      go_ret
      exact ⟨_, _, rfl, O.row.wider hwB (Nat.le_refl _), unhide K⟩
    have hcl : bs2.length ≤ 1700 := by omega
    have O0 := hide O
    have K0 := hide (unhide K)
    clear O K cu
    go_wp2_with fail
    go_loopw [4] (fun bv wx => ∃ (cs : List Int), OwnT B wx bv cs ∧ cs.length ≤ 1700 ∧ B ≤ wx.heap.size ∧ Kept 0 0 w wx) (fun bv _ => 401 - lenV bv)
    case atStart => exact ⟨_, unhide O0, hcl, hBs, unhide K0⟩
    case round =>
      clear O0 K0 hBs hcl
      obtain ⟨cs, O, hcl, hBs, kx⟩ := hrel
      obtain ⟨ax, cx, hv⟩ := O.form
      subst hv
      by_cases hle : cs.length ≤ 400
      · have hle' : (cs.length : Int) ≤ 400 := by omega
        have kA := (Kept.refl 0 0 wr).alloc (.cells #[.int .u8 55] 5)
        have cA : (wr.alloc (.cells #[.int .u8 55] 5)).cell? ⟨wr.heap.size, 0, none⟩ = some (.int .u8 55) := new_cell_at _ _ _ _ rfl
        have OA := hide (O.kept kA)
        have CA := hide cA
        have hBA : Hid (B ≤ (wr.alloc (.cells #[.int .u8 55] 5)).heap.size) := by show _ ≤ _; simp; omega
        have hlA : Hid (cs.length ≤ 2000000) := by show _ ≤ _; omega
        have KA := hide (kx.trans kA)
        clear O cA kA kx
        go_wp2_with (at_builtin; refine wpList_byteT rfl _ _ rfl rfl _ rfl 55 (unhide CA) (unhide OA) (unhide hBA) (unhide hlA) ?_)
        intro v9 w9 hown hK hkb
        have KB := hide (hK w 0 0 (unhide KA) hwB)
        have hB9 : Hid (B ≤ w9.heap.size) := Nat.le_trans (unhide hBA) hkb.size
        obtain ⟨a9, c9, hv⟩ := own_slice hown
        have ON := hide hown
        subst hv
        clear hown hK hkb
        go_wp2
        go_roundw
        case rel => exact ⟨cs ++ [55], .inl (by simpa using unhide ON), by simp; omega, unhide hB9, unhide KB⟩
        case measure => simp [lenV]; omega
      · have hle' : ¬ (cs.length : Int) ≤ 400 := by omega
        have RR := hide (O.row.wider hwB (Nat.le_refl _))
        have KX := hide kx
        clear O kx
        go_wp2_with fail
        go_ret
        first | exact ⟨_, _, rfl, unhide RR, unhide KX⟩ | exact ⟨_, rfl, ⟨_, unhide RR⟩, unhide KX⟩
  have kA := (Kept.refl 0 0 w7).alloc (.cells #[.int .u8 48] 5)
  have o1 := own_lit .u8 w7 5 B hBs [48] (by simp [maxLen])
  simp at o1
  obtain ⟨g5, f5, c5, e5, -, -, hnews⟩ := (O.row.kept kA (by omega)).news hne_bs2
  cases e5
  have hlk : (bs2.map (Value.int .u8)).length = bs2.length * 1 := by simp
  have HN := hide hnews
  have O1 := hide o1
  have HB : Hid (B ≤ (w7.alloc (.cells #[.int .u8 48] 5)).heap.size) := by show _ ≤ _; simp; omega
  have c3' : 1 + bs2.length ≤ maxLen := by unfold maxLen; omega
  have c4' : (1 + bs2.length) * 1 ≤ 140737488355328 := by omega
  have C3 := hide c3'
  have C4 := hide c4'
  clear hnews o1 c3' c4'
  go_wp2_with (at_builtin; refine wpList_append_own _ rfl _ _ 22 rfl B 5 i0 (.int .u8 0) 1 1 Try.underlying22 hi0 hz0 hz1 hz2 rfl (by decide) _ _ _ rfl (unhide O1) ⟨g5, f5, none⟩ bs2.length _ (bs2.map (Value.int .u8)) rfl hlk (unhide HN) (ints_one _ _) (unhide C3) (unhide C4) (unhide HB) ?_)
  intro v8 w8 hown hgrow _
  have hkb := Kept.grown (lo := w7.heap.size) (hi := w7.heap.size + 1) hgrow (fun q hq => by simp [Value.ownBlock] at hq; omega)
  replace K := hide (((unhide K).trans kA).growNew hgrow (fun q hq => by simp [Value.ownBlock] at hq; have := (unhide K).size; omega))
  replace cu := (cu.kept kA (by omega)).kept hkb (.inl (by omega))
  have hB2 : B ≤ w8.heap.size := Nat.le_trans (unhide HB) hkb.size
  obtain ⟨bz, hnew⟩ : ∃ y, 48 :: bs2 = y := ⟨_, rfl⟩
  replace O : OwnT B w8 v8 bz := .inl (by rw [← hnew, show (48 :: bs2 : List Int).length = 1 + bs2.length by simp; omega]; exact hown)
  have hl_bz : bz.length ≤ bs2.length + 1 := by rw [← hnew]; simp
  replace hBs := hB2
  clear hown hgrow hkb kA O1 HN HB C3 C4 hnew hlk hB2
  obtain ⟨a8, c8, hv⟩ := O.form
  subst hv
  go_wp2_with fail
  refine (l1Once_any g LO _ cu 30).mono ?_
  rintro e w9 ⟨b9, rfl, dd⟩
  replace O := O.drew dd.2.1 hgB
  replace K := hide ((unhide K).newR dd.2.1 hwg)
  replace cu := dd.1
  replace hBs : B ≤ w9.heap.size := by rw [dd.2.2]; exact hBs
  clear dd
  cases b9
  · go_wp2_with fail
    go_ret
    exact ⟨_, _, rfl, O.row.wider hwB (Nat.le_refl _), unhide K⟩
  have hcl : bz.length ≤ 1701 := by omega
  have O0 := hide O
  have K0 := hide (unhide K)
  clear O K cu
  go_wp2_with fail
  go_loopw [4] (fun bv wx => ∃ (cs : List Int), OwnT B wx bv cs ∧ cs.length ≤ 1701 ∧ B ≤ wx.heap.size ∧ Kept 0 0 w wx) (fun bv _ => 401 - lenV bv)
  case atStart => exact ⟨_, unhide O0, hcl, hBs, unhide K0⟩
  case round =>
    clear O0 K0 hBs hcl
    obtain ⟨cs, O, hcl, hBs, kx⟩ := hrel
    obtain ⟨ax, cx, hv⟩ := O.form
    subst hv
    by_cases hle : cs.length ≤ 400
    · have hle' : (cs.length : Int) ≤ 400 := by omega
      have kA := (Kept.refl 0 0 wr).alloc (.cells #[.int .u8 55] 5)
      have cA : (wr.alloc (.cells #[.int .u8 55] 5)).cell? ⟨wr.heap.size, 0, none⟩ = some (.int .u8 55) := new_cell_at _ _ _ _ rfl
      have OA := hide (O.kept kA)
      have CA := hide cA
      have hBA : Hid (B ≤ (wr.alloc (.cells #[.int .u8 55] 5)).heap.size) := by show _ ≤ _; simp; omega
      have hlA : Hid (cs.length ≤ 2000000) := by show _ ≤ _; omega
      have KA := hide (kx.trans kA)
      clear O cA kA kx
      go_wp2_with (at_builtin; refine wpList_byteT rfl _ _ rfl rfl _ rfl 55 (unhide CA) (unhide OA) (unhide hBA) (unhide hlA) ?_)
      intro v9 w9 hown hK hkb
      have KB := hide (hK w 0 0 (unhide KA) hwB)
      have hB9 : Hid (B ≤ w9.heap.size) := Nat.le_trans (unhide hBA) hkb.size
      obtain ⟨a9, c9, hv⟩ := own_slice hown
      have ON := hide hown
      subst hv
      clear hown hK hkb
      go_wp2
      go_roundw
      case rel => exact ⟨cs ++ [55], .inl (by simpa using unhide ON), by simp; omega, unhide hB9, unhide KB⟩
      case measure => simp [lenV]; omega
    · have hle' : ¬ (cs.length : Int) ≤ 400 := by omega
      have RR := hide (O.row.wider hwB (Nat.le_refl _))
      have KX := hide kx
      clear O kx
      go_wp2_with fail
      go_ret
      first | exact ⟨_, _, rfl, unhide RR, unhide KX⟩ | exact ⟨_, rfl, ⟨_, unhide RR⟩, unhide KX⟩

set_option maxHeartbeats 8000000 in
theorem law_NatTexts {v : Value} {zs : List Int} {w : World} (r : Row .u8 false 0 w.heap.size w v zs) (hb0 : ∀ z ∈ zs, (Lit.int .u8 z).wf = true) :
    Calls Try.prog 3 #[v] w fun e w' => e = .returned (.bool true) ∧ Below w.heap.size w w' := by
  have hb := bytes_of_wf hb0
  clear hb0
  have hB := hide hb
  clear hb
  have s0 : w.heap.size = w.heap.size := rfl
  obtain ⟨a0, c0, hv⟩ := r.form'
  subst hv
  have K := hide (Kept.refl 0 0 w)
  have S0 := hide s0
  clear s0
  go_enter Try.func3, Try.ntmps3
  go_wp2_with fail
  refine (drawText_any _ r (unhide hB)).mono ?_
  rintro e w1 ⟨v1, xs, rfl, r1, k1⟩
  replace r := r.kept k1 (.inr (.inr (Nat.le_refl 0)))
  replace K := hide ((unhide K).trans k1)
  have z2 := k1.size
  clear k1
  obtain ⟨a1, c1, hv⟩ := Row.form' r1
  subst hv
  have kn := (Kept.refl 0 0 w1).alloc (.cells #[.slice a1 xs.length c1] 25)
  have ca0 : (w1.alloc (.cells #[.slice a1 xs.length c1] 25)).cell? ⟨w1.heap.size, 0, none⟩ = some (.slice a1 xs.length c1) := new_cell_at _ _ _ _ (by simp)
  have sz3 : w1.heap.size + 1 ≤ (w1.alloc (.cells #[.slice a1 xs.length c1] 25)).heap.size := by simp
  replace r := r.kept kn (.inr (.inr (Nat.le_refl 0)))
  replace r1 := r1.kept kn (.inr (.inr (Nat.le_refl 0)))
  replace K := hide ((unhide K).trans kn)
  have z4 := kn.size
  clear kn
  go_wp2_with fail
  generalize (w1.alloc (.cells #[.slice a1 xs.length c1] 25)) = wn5 at *
  have mk := natText_impl wn5 r1
  obtain ⟨TX, hTX⟩ : ∃ y, ntx xs = y := ⟨_, rfl⟩
  rw [hTX] at mk
  have HX := hide hTX
  clear hTX
  refine (mk).mono ?_
  rintro e w6 ⟨vy, rfl, ry, k6⟩
  replace r := r.kept k6 (.inr (.inr (Nat.le_refl 0)))
  replace r1 := r1.kept k6 (.inr (.inr (Nat.le_refl 0)))
  replace ca0 := k6.cell0 ca0
  replace K := hide ((unhide K).trans k6)
  have z7 := k6.size
  clear k6
  clear mk
  obtain ⟨ay, cy, hv⟩ := Row.form' ry
  subst hv
  go_wp2_with fail
  have mo := ok_spec w6 r1
  refine (mo).mono ?_
  rintro e w8 ⟨rfl, k8⟩
  replace r := r.kept k8 (.inr (.inr (Nat.le_refl 0)))
  replace r1 := r1.kept k8 (.inr (.inr (Nat.le_refl 0)))
  replace ry := ry.kept k8 (.inr (.inr (Nat.le_refl 0)))
  replace ca0 := k8.cell0 ca0
  replace K := hide ((unhide K).trans k8)
  have z9 := k8.size
  clear k8
  clear mo
  cases ho1 : okB xs
  · have ht : TX = [] := by rw [← unhide HX]; unfold ntx; rw [if_neg (by rw [ho1]; decide)]
    subst ht
    clear ho1
    go_wp2_with fail
    refine (drawRead_any _ r (unhide hB)).mono ?_
    rintro e w10 ⟨vm, ms, rfl, rm, k10⟩
    replace r := r.kept k10 (.inr (.inr (Nat.le_refl 0)))
    replace r1 := r1.kept k10 (.inr (.inr (Nat.le_refl 0)))
    replace ry := ry.kept k10 (.inr (.inr (Nat.le_refl 0)))
    replace ca0 := k10.cell0 ca0
    replace K := hide ((unhide K).trans k10)
    have z11 := k10.size
    clear k10
    obtain ⟨am, cm, hv⟩ := Row.form' rm
    subst hv
    go_wp2_with fail
    have mk := natRead_impl w10 rm
    obtain ⟨AB, hAB⟩ : ∃ y, ansB (readOk ms) (digN ms) = y := ⟨_, rfl⟩
    obtain ⟨AL, hAL⟩ : ∃ y, ansL (readOk ms) (digN ms) = y := ⟨_, rfl⟩
    rw [hAB, hAL] at mk
    have HA := hide (And.intro hAB hAL)
    clear hAB hAL
    refine (mk).mono ?_
    rintro e w12 ⟨v6, rfl, r6, k12⟩
    replace r := r.kept k12 (.inr (.inr (Nat.le_refl 0)))
    replace r1 := r1.kept k12 (.inr (.inr (Nat.le_refl 0)))
    replace ry := ry.kept k12 (.inr (.inr (Nat.le_refl 0)))
    replace rm := rm.kept k12 (.inr (.inr (Nat.le_refl 0)))
    replace ca0 := k12.cell0 ca0
    replace K := hide ((unhide K).trans k12)
    have z13 := k12.size
    clear k12
    clear mk
    obtain ⟨a6, c6, hv⟩ := Row.form' r6
    subst hv
    cases hb6 : AB
    · have he : AL = [] := by rw [← (unhide HA).2]; exact ans_no ((unhide HA).1.trans hb6)
      subst hb6 he
      have kn := (Kept.refl 0 0 w12).alloc (.cells #[.slice a6 0 c6] 25)
      have cx0 : (w12.alloc (.cells #[.slice a6 0 c6] 25)).cell? ⟨w12.heap.size, 0, none⟩ = some (.slice a6 0 c6) := new_cell_at _ _ _ _ (by simp)
      have sz14 : w12.heap.size + 1 ≤ (w12.alloc (.cells #[.slice a6 0 c6] 25)).heap.size := by simp
      replace r := r.kept kn (.inr (.inr (Nat.le_refl 0)))
      replace r1 := r1.kept kn (.inr (.inr (Nat.le_refl 0)))
      replace ry := ry.kept kn (.inr (.inr (Nat.le_refl 0)))
      replace rm := rm.kept kn (.inr (.inr (Nat.le_refl 0)))
      replace r6 := r6.kept kn (.inr (.inr (Nat.le_refl 0)))
      replace ca0 := kn.cell0 ca0
      replace K := hide ((unhide K).trans kn)
      have z15 := kn.size
      clear kn
      go_wp2_with fail
      generalize (w12.alloc (.cells #[.slice a6 0 c6] 25)) = wn16 at *
      have mo := nat_any wn16 0 (by decide)
      rw [show limbs (0 : Int).toNat = [] by decide] at mo
      refine (mo).mono ?_
      rintro e w17 ⟨v7, rfl, r7, k17⟩
      replace r := r.kept k17 (.inr (.inr (Nat.le_refl 0)))
      replace r1 := r1.kept k17 (.inr (.inr (Nat.le_refl 0)))
      replace ry := ry.kept k17 (.inr (.inr (Nat.le_refl 0)))
      replace rm := rm.kept k17 (.inr (.inr (Nat.le_refl 0)))
      replace r6 := r6.kept k17 (.inr (.inr (Nat.le_refl 0)))
      replace ca0 := k17.cell0 ca0
      replace cx0 := k17.cell0 cx0
      replace K := hide ((unhide K).trans k17)
      have z18 := k17.size
      clear k17
      clear mo
      go_wp2_with fail
      have mo := natText_impl w17 r7
      rw [show ntx [] = [48] by decide] at mo
      refine (mo).mono ?_
      rintro e w19 ⟨v8, rfl, r8, k19⟩
      replace r := r.kept k19 (.inr (.inr (Nat.le_refl 0)))
      replace r1 := r1.kept k19 (.inr (.inr (Nat.le_refl 0)))
      replace ry := ry.kept k19 (.inr (.inr (Nat.le_refl 0)))
      replace rm := rm.kept k19 (.inr (.inr (Nat.le_refl 0)))
      replace r6 := r6.kept k19 (.inr (.inr (Nat.le_refl 0)))
      replace r7 := r7.kept k19 (.inr (.inr (Nat.le_refl 0)))
      replace ca0 := k19.cell0 ca0
      replace cx0 := k19.cell0 cx0
      replace K := hide ((unhide K).trans k19)
      have z20 := k19.size
      clear k19
      clear mo
      obtain ⟨a8, c8, hv⟩ := Row.form' r8
      subst hv
      try go_wp2_with fail
      go_ret
      exact ⟨rfl, (unhide K).toBelow⟩
    subst hb6
    have kn := (Kept.refl 0 0 w12).alloc (.cells #[.slice a6 AL.length c6] 25)
    have cx0 : (w12.alloc (.cells #[.slice a6 AL.length c6] 25)).cell? ⟨w12.heap.size, 0, none⟩ = some (.slice a6 AL.length c6) := new_cell_at _ _ _ _ (by simp)
    have sz14 : w12.heap.size + 1 ≤ (w12.alloc (.cells #[.slice a6 AL.length c6] 25)).heap.size := by simp
    replace r := r.kept kn (.inr (.inr (Nat.le_refl 0)))
    replace r1 := r1.kept kn (.inr (.inr (Nat.le_refl 0)))
    replace ry := ry.kept kn (.inr (.inr (Nat.le_refl 0)))
    replace rm := rm.kept kn (.inr (.inr (Nat.le_refl 0)))
    replace r6 := r6.kept kn (.inr (.inr (Nat.le_refl 0)))
    replace ca0 := kn.cell0 ca0
    replace K := hide ((unhide K).trans kn)
    have z15 := kn.size
    clear kn
    go_wp2_with fail
    generalize (w12.alloc (.cells #[.slice a6 AL.length c6] 25)) = wn16 at *
    have mo := natText_impl wn16 r6
    rw [read_text (unhide HA).1 (unhide HA).2] at mo
    refine (mo).mono ?_
    rintro e w17 ⟨v7, rfl, r7, k17⟩
    replace r := r.kept k17 (.inr (.inr (Nat.le_refl 0)))
    replace r1 := r1.kept k17 (.inr (.inr (Nat.le_refl 0)))
    replace ry := ry.kept k17 (.inr (.inr (Nat.le_refl 0)))
    replace rm := rm.kept k17 (.inr (.inr (Nat.le_refl 0)))
    replace r6 := r6.kept k17 (.inr (.inr (Nat.le_refl 0)))
    replace ca0 := k17.cell0 ca0
    replace cx0 := k17.cell0 cx0
    replace K := hide ((unhide K).trans k17)
    have z18 := k17.size
    clear k17
    clear mo
    obtain ⟨a7, c7, hv⟩ := Row.form' r7
    subst hv
    go_wp2_with fail
    have mo := sameBytes_same w17 r7 rm
    refine (mo).mono ?_
    rintro e w19 ⟨rfl, k19⟩
    replace r := r.kept k19 (.inr (.inr (Nat.le_refl 0)))
    replace r1 := r1.kept k19 (.inr (.inr (Nat.le_refl 0)))
    replace ry := ry.kept k19 (.inr (.inr (Nat.le_refl 0)))
    replace rm := rm.kept k19 (.inr (.inr (Nat.le_refl 0)))
    replace r6 := r6.kept k19 (.inr (.inr (Nat.le_refl 0)))
    replace r7 := r7.kept k19 (.inr (.inr (Nat.le_refl 0)))
    replace ca0 := k19.cell0 ca0
    replace cx0 := k19.cell0 cx0
    replace K := hide ((unhide K).trans k19)
    have z20 := k19.size
    clear k19
    clear mo
    try go_wp2_with fail
    go_ret
    exact ⟨rfl, (unhide K).toBelow⟩
  have HO1 := hide ho1
  clear ho1
  go_wp2_with fail
  have mk := natRead_impl w8 ry
  by_cases hlen : 400 < TX.length
  · obtain ⟨BB, hBB⟩ : ∃ y, ansB (readOk TX) (digN TX) = y := ⟨_, rfl⟩
    obtain ⟨BL, hBL⟩ : ∃ y, ansL (readOk TX) (digN TX) = y := ⟨_, rfl⟩
    rw [hBB, hBL] at mk
    clear hBB hBL
    have hlen' : ¬ (TX.length : Int) ≤ 400 := by omega
    refine (mk).mono ?_
    rintro e w10 ⟨v5, rfl, r5, k10⟩
    replace r := r.kept k10 (.inr (.inr (Nat.le_refl 0)))
    replace r1 := r1.kept k10 (.inr (.inr (Nat.le_refl 0)))
    replace ry := ry.kept k10 (.inr (.inr (Nat.le_refl 0)))
    replace ca0 := k10.cell0 ca0
    replace K := hide ((unhide K).trans k10)
    have z11 := k10.size
    clear k10
    clear mk
    obtain ⟨a5, c5, hv⟩ := Row.form' r5
    subst hv
    have kn := (Kept.refl 0 0 w10).alloc (.cells #[.slice a5 BL.length c5] 25)
    have cw0 : (w10.alloc (.cells #[.slice a5 BL.length c5] 25)).cell? ⟨w10.heap.size, 0, none⟩ = some (.slice a5 BL.length c5) := new_cell_at _ _ _ _ (by simp)
    have sz12 : w10.heap.size + 1 ≤ (w10.alloc (.cells #[.slice a5 BL.length c5] 25)).heap.size := by simp
    replace r := r.kept kn (.inr (.inr (Nat.le_refl 0)))
    replace r1 := r1.kept kn (.inr (.inr (Nat.le_refl 0)))
    replace ry := ry.kept kn (.inr (.inr (Nat.le_refl 0)))
    replace r5 := r5.kept kn (.inr (.inr (Nat.le_refl 0)))
    replace ca0 := kn.cell0 ca0
    replace K := hide ((unhide K).trans kn)
    have z13 := kn.size
    clear kn
    go_wp2_with fail
    generalize (w10.alloc (.cells #[.slice a5 BL.length c5] 25)) = wn14 at *
    refine (drawRead_any _ r (unhide hB)).mono ?_
    rintro e w15 ⟨vm, ms, rfl, rm, k15⟩
    replace r := r.kept k15 (.inr (.inr (Nat.le_refl 0)))
    replace r1 := r1.kept k15 (.inr (.inr (Nat.le_refl 0)))
    replace ry := ry.kept k15 (.inr (.inr (Nat.le_refl 0)))
    replace r5 := r5.kept k15 (.inr (.inr (Nat.le_refl 0)))
    replace ca0 := k15.cell0 ca0
    replace cw0 := k15.cell0 cw0
    replace K := hide ((unhide K).trans k15)
    have z16 := k15.size
    clear k15
    obtain ⟨am, cm, hv⟩ := Row.form' rm
    subst hv
    go_wp2_with fail
    have mk := natRead_impl w15 rm
    obtain ⟨AB, hAB⟩ : ∃ y, ansB (readOk ms) (digN ms) = y := ⟨_, rfl⟩
    obtain ⟨AL, hAL⟩ : ∃ y, ansL (readOk ms) (digN ms) = y := ⟨_, rfl⟩
    rw [hAB, hAL] at mk
    have HA := hide (And.intro hAB hAL)
    clear hAB hAL
    refine (mk).mono ?_
    rintro e w17 ⟨v6, rfl, r6, k17⟩
    replace r := r.kept k17 (.inr (.inr (Nat.le_refl 0)))
    replace r1 := r1.kept k17 (.inr (.inr (Nat.le_refl 0)))
    replace ry := ry.kept k17 (.inr (.inr (Nat.le_refl 0)))
    replace r5 := r5.kept k17 (.inr (.inr (Nat.le_refl 0)))
    replace rm := rm.kept k17 (.inr (.inr (Nat.le_refl 0)))
    replace ca0 := k17.cell0 ca0
    replace cw0 := k17.cell0 cw0
    replace K := hide ((unhide K).trans k17)
    have z18 := k17.size
    clear k17
    clear mk
    obtain ⟨a6, c6, hv⟩ := Row.form' r6
    subst hv
    cases hb6 : AB
    · have he : AL = [] := by rw [← (unhide HA).2]; exact ans_no ((unhide HA).1.trans hb6)
      subst hb6 he
      have kn := (Kept.refl 0 0 w17).alloc (.cells #[.slice a6 0 c6] 25)
      have cx0 : (w17.alloc (.cells #[.slice a6 0 c6] 25)).cell? ⟨w17.heap.size, 0, none⟩ = some (.slice a6 0 c6) := new_cell_at _ _ _ _ (by simp)
      have sz19 : w17.heap.size + 1 ≤ (w17.alloc (.cells #[.slice a6 0 c6] 25)).heap.size := by simp
      replace r := r.kept kn (.inr (.inr (Nat.le_refl 0)))
      replace r1 := r1.kept kn (.inr (.inr (Nat.le_refl 0)))
      replace ry := ry.kept kn (.inr (.inr (Nat.le_refl 0)))
      replace r5 := r5.kept kn (.inr (.inr (Nat.le_refl 0)))
      replace rm := rm.kept kn (.inr (.inr (Nat.le_refl 0)))
      replace r6 := r6.kept kn (.inr (.inr (Nat.le_refl 0)))
      replace ca0 := kn.cell0 ca0
      replace cw0 := kn.cell0 cw0
      replace K := hide ((unhide K).trans kn)
      have z20 := kn.size
      clear kn
      go_wp2_with fail
      generalize (w17.alloc (.cells #[.slice a6 0 c6] 25)) = wn21 at *
      have mo := nat_any wn21 0 (by decide)
      rw [show limbs (0 : Int).toNat = [] by decide] at mo
      refine (mo).mono ?_
      rintro e w22 ⟨v7, rfl, r7, k22⟩
      replace r := r.kept k22 (.inr (.inr (Nat.le_refl 0)))
      replace r1 := r1.kept k22 (.inr (.inr (Nat.le_refl 0)))
      replace ry := ry.kept k22 (.inr (.inr (Nat.le_refl 0)))
      replace r5 := r5.kept k22 (.inr (.inr (Nat.le_refl 0)))
      replace rm := rm.kept k22 (.inr (.inr (Nat.le_refl 0)))
      replace r6 := r6.kept k22 (.inr (.inr (Nat.le_refl 0)))
      replace ca0 := k22.cell0 ca0
      replace cw0 := k22.cell0 cw0
      replace cx0 := k22.cell0 cx0
      replace K := hide ((unhide K).trans k22)
      have z23 := k22.size
      clear k22
      clear mo
      go_wp2_with fail
      have mo := natText_impl w22 r7
      rw [show ntx [] = [48] by decide] at mo
      refine (mo).mono ?_
      rintro e w24 ⟨v8, rfl, r8, k24⟩
      replace r := r.kept k24 (.inr (.inr (Nat.le_refl 0)))
      replace r1 := r1.kept k24 (.inr (.inr (Nat.le_refl 0)))
      replace ry := ry.kept k24 (.inr (.inr (Nat.le_refl 0)))
      replace r5 := r5.kept k24 (.inr (.inr (Nat.le_refl 0)))
      replace rm := rm.kept k24 (.inr (.inr (Nat.le_refl 0)))
      replace r6 := r6.kept k24 (.inr (.inr (Nat.le_refl 0)))
      replace r7 := r7.kept k24 (.inr (.inr (Nat.le_refl 0)))
      replace ca0 := k24.cell0 ca0
      replace cw0 := k24.cell0 cw0
      replace cx0 := k24.cell0 cx0
      replace K := hide ((unhide K).trans k24)
      have z25 := k24.size
      clear k24
      clear mo
      obtain ⟨a8, c8, hv⟩ := Row.form' r8
      subst hv
      try go_wp2_with fail
      go_ret
      exact ⟨rfl, (unhide K).toBelow⟩
    subst hb6
    have kn := (Kept.refl 0 0 w17).alloc (.cells #[.slice a6 AL.length c6] 25)
    have cx0 : (w17.alloc (.cells #[.slice a6 AL.length c6] 25)).cell? ⟨w17.heap.size, 0, none⟩ = some (.slice a6 AL.length c6) := new_cell_at _ _ _ _ (by simp)
    have sz19 : w17.heap.size + 1 ≤ (w17.alloc (.cells #[.slice a6 AL.length c6] 25)).heap.size := by simp
    replace r := r.kept kn (.inr (.inr (Nat.le_refl 0)))
    replace r1 := r1.kept kn (.inr (.inr (Nat.le_refl 0)))
    replace ry := ry.kept kn (.inr (.inr (Nat.le_refl 0)))
    replace r5 := r5.kept kn (.inr (.inr (Nat.le_refl 0)))
    replace rm := rm.kept kn (.inr (.inr (Nat.le_refl 0)))
    replace r6 := r6.kept kn (.inr (.inr (Nat.le_refl 0)))
    replace ca0 := kn.cell0 ca0
    replace cw0 := kn.cell0 cw0
    replace K := hide ((unhide K).trans kn)
    have z20 := kn.size
    clear kn
    go_wp2_with fail
    generalize (w17.alloc (.cells #[.slice a6 AL.length c6] 25)) = wn21 at *
    have mo := natText_impl wn21 r6
    rw [read_text (unhide HA).1 (unhide HA).2] at mo
    refine (mo).mono ?_
    rintro e w22 ⟨v7, rfl, r7, k22⟩
    replace r := r.kept k22 (.inr (.inr (Nat.le_refl 0)))
    replace r1 := r1.kept k22 (.inr (.inr (Nat.le_refl 0)))
    replace ry := ry.kept k22 (.inr (.inr (Nat.le_refl 0)))
    replace r5 := r5.kept k22 (.inr (.inr (Nat.le_refl 0)))
    replace rm := rm.kept k22 (.inr (.inr (Nat.le_refl 0)))
    replace r6 := r6.kept k22 (.inr (.inr (Nat.le_refl 0)))
    replace ca0 := k22.cell0 ca0
    replace cw0 := k22.cell0 cw0
    replace cx0 := k22.cell0 cx0
    replace K := hide ((unhide K).trans k22)
    have z23 := k22.size
    clear k22
    clear mo
    obtain ⟨a7, c7, hv⟩ := Row.form' r7
    subst hv
    go_wp2_with fail
    have mo := sameBytes_same w22 r7 rm
    refine (mo).mono ?_
    rintro e w24 ⟨rfl, k24⟩
    replace r := r.kept k24 (.inr (.inr (Nat.le_refl 0)))
    replace r1 := r1.kept k24 (.inr (.inr (Nat.le_refl 0)))
    replace ry := ry.kept k24 (.inr (.inr (Nat.le_refl 0)))
    replace r5 := r5.kept k24 (.inr (.inr (Nat.le_refl 0)))
    replace rm := rm.kept k24 (.inr (.inr (Nat.le_refl 0)))
    replace r6 := r6.kept k24 (.inr (.inr (Nat.le_refl 0)))
    replace r7 := r7.kept k24 (.inr (.inr (Nat.le_refl 0)))
    replace ca0 := k24.cell0 ca0
    replace cw0 := k24.cell0 cw0
    replace cx0 := k24.cell0 cx0
    replace K := hide ((unhide K).trans k24)
    have z25 := k24.size
    clear k24
    clear mo
    try go_wp2_with fail
    go_ret
    exact ⟨rfl, (unhide K).toBelow⟩
  have hlen' : (TX.length : Int) ≤ 400 := by omega
  have WA := text_read (unhide HO1) (by rw [unhide HX]; omega)
  rw [unhide HX] at WA
  rw [WA.1, WA.2] at mk
  clear WA
  refine (mk).mono ?_
  rintro e w10 ⟨v5, rfl, r5, k10⟩
  replace r := r.kept k10 (.inr (.inr (Nat.le_refl 0)))
  replace r1 := r1.kept k10 (.inr (.inr (Nat.le_refl 0)))
  replace ry := ry.kept k10 (.inr (.inr (Nat.le_refl 0)))
  replace ca0 := k10.cell0 ca0
  replace K := hide ((unhide K).trans k10)
  have z11 := k10.size
  clear k10
  clear mk
  obtain ⟨a5, c5, hv⟩ := Row.form' r5
  subst hv
  have kn := (Kept.refl 0 0 w10).alloc (.cells #[.slice a5 xs.length c5] 25)
  have cw0 : (w10.alloc (.cells #[.slice a5 xs.length c5] 25)).cell? ⟨w10.heap.size, 0, none⟩ = some (.slice a5 xs.length c5) := new_cell_at _ _ _ _ (by simp)
  have sz12 : w10.heap.size + 1 ≤ (w10.alloc (.cells #[.slice a5 xs.length c5] 25)).heap.size := by simp
  replace r := r.kept kn (.inr (.inr (Nat.le_refl 0)))
  replace r1 := r1.kept kn (.inr (.inr (Nat.le_refl 0)))
  replace ry := ry.kept kn (.inr (.inr (Nat.le_refl 0)))
  replace r5 := r5.kept kn (.inr (.inr (Nat.le_refl 0)))
  replace ca0 := kn.cell0 ca0
  replace K := hide ((unhide K).trans kn)
  have z13 := kn.size
  clear kn
  go_wp2_with fail
  generalize (w10.alloc (.cells #[.slice a5 xs.length c5] 25)) = wn14 at *
  have mo := sameNat_any wn14 r5 r1
  rw [show sameL xs xs = true from decide_eq_true rfl] at mo
  refine (mo).mono ?_
  rintro e w15 ⟨rfl, k15⟩
  replace r := r.kept k15 (.inr (.inr (Nat.le_refl 0)))
  replace r1 := r1.kept k15 (.inr (.inr (Nat.le_refl 0)))
  replace ry := ry.kept k15 (.inr (.inr (Nat.le_refl 0)))
  replace r5 := r5.kept k15 (.inr (.inr (Nat.le_refl 0)))
  replace ca0 := k15.cell0 ca0
  replace cw0 := k15.cell0 cw0
  replace K := hide ((unhide K).trans k15)
  have z16 := k15.size
  clear k15
  clear mo
  go_wp2_with fail
  refine (drawRead_any _ r (unhide hB)).mono ?_
  rintro e w17 ⟨vm, ms, rfl, rm, k17⟩
  replace r := r.kept k17 (.inr (.inr (Nat.le_refl 0)))
  replace r1 := r1.kept k17 (.inr (.inr (Nat.le_refl 0)))
  replace ry := ry.kept k17 (.inr (.inr (Nat.le_refl 0)))
  replace r5 := r5.kept k17 (.inr (.inr (Nat.le_refl 0)))
  replace ca0 := k17.cell0 ca0
  replace cw0 := k17.cell0 cw0
  replace K := hide ((unhide K).trans k17)
  have z18 := k17.size
  clear k17
  obtain ⟨am, cm, hv⟩ := Row.form' rm
  subst hv
  go_wp2_with fail
  have mk := natRead_impl w17 rm
  obtain ⟨AB, hAB⟩ : ∃ y, ansB (readOk ms) (digN ms) = y := ⟨_, rfl⟩
  obtain ⟨AL, hAL⟩ : ∃ y, ansL (readOk ms) (digN ms) = y := ⟨_, rfl⟩
  rw [hAB, hAL] at mk
  have HA := hide (And.intro hAB hAL)
  clear hAB hAL
  refine (mk).mono ?_
  rintro e w19 ⟨v6, rfl, r6, k19⟩
  replace r := r.kept k19 (.inr (.inr (Nat.le_refl 0)))
  replace r1 := r1.kept k19 (.inr (.inr (Nat.le_refl 0)))
  replace ry := ry.kept k19 (.inr (.inr (Nat.le_refl 0)))
  replace r5 := r5.kept k19 (.inr (.inr (Nat.le_refl 0)))
  replace rm := rm.kept k19 (.inr (.inr (Nat.le_refl 0)))
  replace ca0 := k19.cell0 ca0
  replace cw0 := k19.cell0 cw0
  replace K := hide ((unhide K).trans k19)
  have z20 := k19.size
  clear k19
  clear mk
  obtain ⟨a6, c6, hv⟩ := Row.form' r6
  subst hv
  cases hb6 : AB
  · have he : AL = [] := by rw [← (unhide HA).2]; exact ans_no ((unhide HA).1.trans hb6)
    subst hb6 he
    have kn := (Kept.refl 0 0 w19).alloc (.cells #[.slice a6 0 c6] 25)
    have cx0 : (w19.alloc (.cells #[.slice a6 0 c6] 25)).cell? ⟨w19.heap.size, 0, none⟩ = some (.slice a6 0 c6) := new_cell_at _ _ _ _ (by simp)
    have sz21 : w19.heap.size + 1 ≤ (w19.alloc (.cells #[.slice a6 0 c6] 25)).heap.size := by simp
    replace r := r.kept kn (.inr (.inr (Nat.le_refl 0)))
    replace r1 := r1.kept kn (.inr (.inr (Nat.le_refl 0)))
    replace ry := ry.kept kn (.inr (.inr (Nat.le_refl 0)))
    replace r5 := r5.kept kn (.inr (.inr (Nat.le_refl 0)))
    replace rm := rm.kept kn (.inr (.inr (Nat.le_refl 0)))
    replace r6 := r6.kept kn (.inr (.inr (Nat.le_refl 0)))
    replace ca0 := kn.cell0 ca0
    replace cw0 := kn.cell0 cw0
    replace K := hide ((unhide K).trans kn)
    have z22 := kn.size
    clear kn
    go_wp2_with fail
    generalize (w19.alloc (.cells #[.slice a6 0 c6] 25)) = wn23 at *
    have mo := nat_any wn23 0 (by decide)
    rw [show limbs (0 : Int).toNat = [] by decide] at mo
    refine (mo).mono ?_
    rintro e w24 ⟨v7, rfl, r7, k24⟩
    replace r := r.kept k24 (.inr (.inr (Nat.le_refl 0)))
    replace r1 := r1.kept k24 (.inr (.inr (Nat.le_refl 0)))
    replace ry := ry.kept k24 (.inr (.inr (Nat.le_refl 0)))
    replace r5 := r5.kept k24 (.inr (.inr (Nat.le_refl 0)))
    replace rm := rm.kept k24 (.inr (.inr (Nat.le_refl 0)))
    replace r6 := r6.kept k24 (.inr (.inr (Nat.le_refl 0)))
    replace ca0 := k24.cell0 ca0
    replace cw0 := k24.cell0 cw0
    replace cx0 := k24.cell0 cx0
    replace K := hide ((unhide K).trans k24)
    have z25 := k24.size
    clear k24
    clear mo
    go_wp2_with fail
    have mo := natText_impl w24 r7
    rw [show ntx [] = [48] by decide] at mo
    refine (mo).mono ?_
    rintro e w26 ⟨v8, rfl, r8, k26⟩
    replace r := r.kept k26 (.inr (.inr (Nat.le_refl 0)))
    replace r1 := r1.kept k26 (.inr (.inr (Nat.le_refl 0)))
    replace ry := ry.kept k26 (.inr (.inr (Nat.le_refl 0)))
    replace r5 := r5.kept k26 (.inr (.inr (Nat.le_refl 0)))
    replace rm := rm.kept k26 (.inr (.inr (Nat.le_refl 0)))
    replace r6 := r6.kept k26 (.inr (.inr (Nat.le_refl 0)))
    replace r7 := r7.kept k26 (.inr (.inr (Nat.le_refl 0)))
    replace ca0 := k26.cell0 ca0
    replace cw0 := k26.cell0 cw0
    replace cx0 := k26.cell0 cx0
    replace K := hide ((unhide K).trans k26)
    have z27 := k26.size
    clear k26
    clear mo
    obtain ⟨a8, c8, hv⟩ := Row.form' r8
    subst hv
    try go_wp2_with fail
    go_ret
    exact ⟨rfl, (unhide K).toBelow⟩
  subst hb6
  have kn := (Kept.refl 0 0 w19).alloc (.cells #[.slice a6 AL.length c6] 25)
  have cx0 : (w19.alloc (.cells #[.slice a6 AL.length c6] 25)).cell? ⟨w19.heap.size, 0, none⟩ = some (.slice a6 AL.length c6) := new_cell_at _ _ _ _ (by simp)
  have sz21 : w19.heap.size + 1 ≤ (w19.alloc (.cells #[.slice a6 AL.length c6] 25)).heap.size := by simp
  replace r := r.kept kn (.inr (.inr (Nat.le_refl 0)))
  replace r1 := r1.kept kn (.inr (.inr (Nat.le_refl 0)))
  replace ry := ry.kept kn (.inr (.inr (Nat.le_refl 0)))
  replace r5 := r5.kept kn (.inr (.inr (Nat.le_refl 0)))
  replace rm := rm.kept kn (.inr (.inr (Nat.le_refl 0)))
  replace r6 := r6.kept kn (.inr (.inr (Nat.le_refl 0)))
  replace ca0 := kn.cell0 ca0
  replace cw0 := kn.cell0 cw0
  replace K := hide ((unhide K).trans kn)
  have z22 := kn.size
  clear kn
  go_wp2_with fail
  generalize (w19.alloc (.cells #[.slice a6 AL.length c6] 25)) = wn23 at *
  have mo := natText_impl wn23 r6
  rw [read_text (unhide HA).1 (unhide HA).2] at mo
  refine (mo).mono ?_
  rintro e w24 ⟨v7, rfl, r7, k24⟩
  replace r := r.kept k24 (.inr (.inr (Nat.le_refl 0)))
  replace r1 := r1.kept k24 (.inr (.inr (Nat.le_refl 0)))
  replace ry := ry.kept k24 (.inr (.inr (Nat.le_refl 0)))
  replace r5 := r5.kept k24 (.inr (.inr (Nat.le_refl 0)))
  replace rm := rm.kept k24 (.inr (.inr (Nat.le_refl 0)))
  replace r6 := r6.kept k24 (.inr (.inr (Nat.le_refl 0)))
  replace ca0 := k24.cell0 ca0
  replace cw0 := k24.cell0 cw0
  replace cx0 := k24.cell0 cx0
  replace K := hide ((unhide K).trans k24)
  have z25 := k24.size
  clear k24
  clear mo
  obtain ⟨a7, c7, hv⟩ := Row.form' r7
  subst hv
  go_wp2_with fail
  have mo := sameBytes_same w24 r7 rm
  refine (mo).mono ?_
  rintro e w26 ⟨rfl, k26⟩
  replace r := r.kept k26 (.inr (.inr (Nat.le_refl 0)))
  replace r1 := r1.kept k26 (.inr (.inr (Nat.le_refl 0)))
  replace ry := ry.kept k26 (.inr (.inr (Nat.le_refl 0)))
  replace r5 := r5.kept k26 (.inr (.inr (Nat.le_refl 0)))
  replace rm := rm.kept k26 (.inr (.inr (Nat.le_refl 0)))
  replace r6 := r6.kept k26 (.inr (.inr (Nat.le_refl 0)))
  replace r7 := r7.kept k26 (.inr (.inr (Nat.le_refl 0)))
  replace ca0 := k26.cell0 ca0
  replace cw0 := k26.cell0 cw0
  replace cx0 := k26.cell0 cx0
  replace K := hide ((unhide K).trans k26)
  have z27 := k26.size
  clear k26
  clear mo
  try go_wp2_with fail
  go_ret
  exact ⟨rfl, (unhide K).toBelow⟩

end Go.Proofs.Ytmmlembpfmichaa
