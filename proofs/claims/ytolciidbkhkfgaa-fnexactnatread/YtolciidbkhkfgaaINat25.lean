/-
  Contracts of NatRead, the model's and the program's.
-/
import Derived.Test.YtolciidbkhkfgaaINat24
import Derived.Test.YtolciidbkhkfgaaINat12
import Derived.Test.YtolciidbkhkfgaaNat14
import Derived.Test.YtolciidbkhkfgaaINat4
namespace Go.Proofs.Ytolciidbkhkfgaa
open Go.RowKit
set_option linter.unusedVariables false
set_option maxRecDepth 8000
set_option linter.unusedSimpArgs false

/-- May the text be read? -/
def readOk (bs : List Int) : Bool := decide (bs.length ≤ 400) && isDig bs && !(decide (1 < bs.length) && decide (bs.getD 0 0 = 48))
theorem readOk_long {bs : List Int} (h : 400 < bs.length) : readOk bs = false := by unfold readOk; rw [decide_eq_false (by omega)]; rfl
theorem readOk_dig {bs : List Int} (h : isDig bs = false) : readOk bs = false := by unfold readOk; rw [h, Bool.and_false]; rfl
theorem readOk_nought {bs : List Int} (h : 1 < bs.length) (h0 : bs.getD 0 0 = 48) : readOk bs = false := by unfold readOk; rw [decide_eq_true h, decide_eq_true h0]; simp
theorem readOk_yes {bs : List Int} (h : bs.length ≤ 400) (hd : isDig bs = true) (h0 : ¬ (1 < bs.length ∧ bs.getD 0 0 = 48)) : readOk bs = true := by
  unfold readOk
  rw [decide_eq_true h, hd, ← Bool.decide_and, decide_eq_false h0]; rfl

set_option maxHeartbeats 4000000 in
theorem natRead_spec {bw : Bool} {lo hi : Nat} {v : Value} {bs : List Int} (w : World) (r : Row .u8 bw lo hi w v bs) :
    Calls Try.prog 82 #[v] w fun e w' => ∃ v', e = .returned (.tuple #[.agg #[v'], .bool (ansB (readOk bs) (digN bs))]) ∧ Row .i64 true w.heap.size w'.heap.size w' v' (ansL (readOk bs) (digN bs)) ∧ Kept 0 0 w w' := by
  have k0 := (Kept.refl 0 0 w).alloc (.cells #[.slice none 0 0] 26)
  have q := r.kept k0 (by omega)
  have c3 : (w.alloc (.cells #[.slice none 0 0] 26)).cell? ⟨w.heap.size, 0, none⟩ = some (.slice none 0 0) := new_cell_at _ _ _ _ rfl
  have f3 : (w.alloc (.cells #[.slice none 0 0] 26)).frozen? ⟨w.heap.size, 0, none⟩ = false := new_loose _ _ _ _ rfl
  obtain ⟨a, c, rfl⟩ := Row.form' r
  have hm := r.len
  unfold maxLen at hm
  have HAT := hide ((row_cell q).2.2.2)
  clear r
  by_cases hlen : 400 < bs.length
  · have E0 := hide (readOk_long hlen)
    have hlen' : (400 : Int) < (bs.length : Int) := by omega
    clear q HAT c3 f3 k0
    go_enter Try.func82, Try.ntmps82
    go_wp2_with fail
    exact bodyPost_ret (v := .tuple #[.agg #[.slice none 0 0], .bool false]) (by simp [results, Try.results82, go_sem]) rfl ⟨_, by rw [ansB_no (unhide E0)], by rw [ansL_no (unhide E0)]; exact Row.nil _ _ _ _ _, (Kept.refl 0 0 w).alloc _⟩
  have hlen' : ¬ (400 : Int) < (bs.length : Int) := by omega
  go_enter Try.func82, Try.ntmps82
  go_wp2_with fail
  refine (isDigits_spec _ q).mono ?_
  rintro e w1 ⟨rfl, rfl⟩
  generalize w.alloc (.cells #[.slice none 0 0] 26) = W at *
  cases hdg : isDig bs
  · have E0 := hide (readOk_dig hdg)
    have K0 := hide (k0.setNew (p := ⟨w.heap.size, 0, none⟩) (Nat.le_refl _) (.slice none 0 0))
    clear q HAT hdg k0
    go_wp2_with fail
    exact bodyPost_ret (v := .tuple #[.agg #[.slice none 0 0], .bool false]) (by simp [results, Try.results82, go_sem, c3]) rfl ⟨_, by rw [ansB_no (unhide E0)], by rw [ansL_no (unhide E0)]; exact Row.nil _ _ _ _ _, unhide K0⟩
  have hne : 0 < bs.length := by
    rcases Nat.eq_zero_or_pos bs.length with h | h
    · rw [isDig_nil h] at hdg; cases hdg
    · exact h
  obtain ⟨g0, o0, rfl, x0⟩ := unhide HAT 0 hne
  rw [Nat.add_zero] at x0
  have hdi := isDig_at hdg 0 hne
  clear HAT
  have HDG := hide hdg
  clear hdg
  have MAIN : ¬ (1 < bs.length ∧ bs.getD 0 0 = 48) → Hid (readOk bs = true) := fun h => readOk_yes (by omega) (unhide HDG) h
  have HMAIN := hide MAIN
  clear MAIN
  by_cases h1 : 1 < bs.length
  · have h1' : (1 : Int) < (bs.length : Int) := by omega
    by_cases h0 : bs.getD 0 0 = 48
    · have E0 := hide (readOk_nought h1 h0)
      have K0 := hide (k0.setNew (p := ⟨w.heap.size, 0, none⟩) (Nat.le_refl _) (.slice none 0 0))
      rw [h0] at x0
      clear q k0 h0 hdi
      go_wp2_with fail
      exact bodyPost_ret (v := .tuple #[.agg #[.slice none 0 0], .bool false]) (by simp [results, Try.results82, go_sem, c3]) rfl ⟨_, by rw [ansB_no (unhide E0)], by rw [ansL_no (unhide E0)]; exact Row.nil _ _ _ _ _, unhide K0⟩
    · have h00 : (bs.getD 0 0 == 48) = false := beq_eq_false_iff_ne.2 h0
      have E1 := unhide HMAIN (by omega)
      generalize bs.getD 0 0 = z0 at *
      go_wp2_with fail
      refine (digits_spec _ q (unhide HDG) (by omega)).mono ?_
      rintro e w2 ⟨v2, rfl, r2, k2⟩
      have b0 := World.block_lt_of_cell? _ _ c3
      dsimp only at b0
      replace f3 := k2.loose0 b0 f3
      replace c3 := k2.cell0 c3
      replace k0 := k0.trans k2
      have b2 := World.block_lt_of_cell? _ _ c3
      dsimp only at b2
      clear k2 q x0
      go_wp2_with fail
      refine (fits_spec _ r2).mono ?_
      rintro e w7 ⟨rfl, k7⟩
      replace r2 := r2.kept k7 (by omega)
      replace f3 := k7.loose0 b2 f3
      replace c3 := k7.cell0 c3
      replace k0 := k0.trans k7
      clear k7
      obtain ⟨v7, hv7, R7⟩ : ∃ v7, (if (limbs (digN bs)).length ≤ 100 then v2 else .slice none 0 0) = v7 ∧ Row .i64 true W.heap.size w7.heap.size w7 v7 (tell (limbs (digN bs))) := by
        by_cases h : (limbs (digN bs)).length ≤ 100
        · exact ⟨v2, by rw [if_pos h], by rw [tell_short h]; exact r2.tight⟩
        · exact ⟨_, by rw [if_neg h], by unfold tell; rw [if_neg h]; exact Row.nil _ _ _ _ _⟩
      rw [hv7]
      clear hv7 r2
      generalize hzz : tell (limbs (digN bs)) = zz at *
      generalize hbb : decide ((limbs (digN bs)).length ≤ 100) = bb at *
      have HZ : Hid (ansL (readOk bs) (digN bs) = zz) := by show _ = _; rw [ansL_yes (unhide E1), hzz]
      have HB : Hid (ansB (readOk bs) (digN bs) = bb) := by show _ = _; rw [ansB_yes (unhide E1), hbb]
      obtain ⟨a7, d7, rfl⟩ := Row.form' R7
      have R := hide ((R7.set_other (p := ⟨w.heap.size, 0, none⟩) (.inl b0) (.slice a7 zz.length d7)).tight.wider (lo' := w.heap.size) (by omega) (Nat.le_refl _))
      have K7 := hide (k0.setNew (p := ⟨w.heap.size, 0, none⟩) (Nat.le_refl _) (.slice a7 zz.length d7))
      clear R7 hzz hbb k0
      go_wp2_with fail
      exact bodyPost_ret (v := .tuple #[.agg #[.slice a7 zz.length d7], .bool bb]) (by simp [results, Try.results82, go_sem, c3]) rfl ⟨_, by rw [unhide HB], by rw [unhide HZ]; exact unhide R, unhide K7⟩
  · have h1' : ¬ (1 : Int) < (bs.length : Int) := by omega
    have hd1 : decide ((1 : Int) < (bs.length : Int)) = false := decide_eq_false h1'
    have E1 := unhide HMAIN (by omega)
    generalize bs.getD 0 0 = z0 at *
    go_wp2_with fail
    refine (digits_spec _ q (unhide HDG) (by omega)).mono ?_
    rintro e w2 ⟨v2, rfl, r2, k2⟩
    have b0 := World.block_lt_of_cell? _ _ c3
    dsimp only at b0
    replace f3 := k2.loose0 b0 f3
    replace c3 := k2.cell0 c3
    replace k0 := k0.trans k2
    have b2 := World.block_lt_of_cell? _ _ c3
    dsimp only at b2
    clear k2 q x0
    go_wp2_with fail
    refine (fits_spec _ r2).mono ?_
    rintro e w7 ⟨rfl, k7⟩
    replace r2 := r2.kept k7 (by omega)
    replace f3 := k7.loose0 b2 f3
    replace c3 := k7.cell0 c3
    replace k0 := k0.trans k7
    clear k7
    obtain ⟨v7, hv7, R7⟩ : ∃ v7, (if (limbs (digN bs)).length ≤ 100 then v2 else .slice none 0 0) = v7 ∧ Row .i64 true W.heap.size w7.heap.size w7 v7 (tell (limbs (digN bs))) := by
        by_cases h : (limbs (digN bs)).length ≤ 100
        · exact ⟨v2, by rw [if_pos h], by rw [tell_short h]; exact r2.tight⟩
        · exact ⟨_, by rw [if_neg h], by unfold tell; rw [if_neg h]; exact Row.nil _ _ _ _ _⟩
    rw [hv7]
    clear hv7 r2
    generalize hzz : tell (limbs (digN bs)) = zz at *
    generalize hbb : decide ((limbs (digN bs)).length ≤ 100) = bb at *
    have HZ : Hid (ansL (readOk bs) (digN bs) = zz) := by show _ = _; rw [ansL_yes (unhide E1), hzz]
    have HB : Hid (ansB (readOk bs) (digN bs) = bb) := by show _ = _; rw [ansB_yes (unhide E1), hbb]
    obtain ⟨a7, d7, rfl⟩ := Row.form' R7
    have R := hide ((R7.set_other (p := ⟨w.heap.size, 0, none⟩) (.inl b0) (.slice a7 zz.length d7)).tight.wider (lo' := w.heap.size) (by omega) (Nat.le_refl _))
    have K7 := hide (k0.setNew (p := ⟨w.heap.size, 0, none⟩) (Nat.le_refl _) (.slice a7 zz.length d7))
    clear R7 hzz hbb k0
    go_wp2_with fail
    exact bodyPost_ret (v := .tuple #[.agg #[.slice a7 zz.length d7], .bool bb]) (by simp [results, Try.results82, go_sem, c3]) rfl ⟨_, by rw [unhide HB], by rw [unhide HZ]; exact unhide R, unhide K7⟩

theorem dig_fold (bs : List Int) (i : Nat) (h : i < bs.length) (hd : 48 ≤ bs.getD i 0 ∧ bs.getD i 0 ≤ 57) : (10 * val (limbs (digN (bs.take i))) + (bs.getD i 0 - 48)).toNat = digN (bs.take (i + 1)) := by
  rw [limbs_val, digN_step bs i h]
  omega

set_option maxHeartbeats 8000000 in
theorem natRead_impl {bw : Bool} {lo hi : Nat} {v : Value} {bs : List Int} (w : World) (r : Row .u8 bw lo hi w v bs) :
    Calls Try.prog 52 #[v] w fun e w' => ∃ v', e = .returned (.tuple #[.agg #[v'], .bool (ansB (readOk bs) (digN bs))]) ∧ Row .i64 true w.heap.size w'.heap.size w' v' (ansL (readOk bs) (digN bs)) ∧ Kept 0 0 w w' := by
  obtain ⟨a, c, rfl⟩ := Row.form' r
  have hm := r.len
  unfold maxLen at hm
  have HAT0 := hide ((row_cell r).2.2.2)
  by_cases hlen : 400 < bs.length
  · have E0 := hide (readOk_long hlen)
    have hlen' : (400 : Int) < (bs.length : Int) := by omega
    clear r HAT0
    go_enter Try.func52, Try.ntmps52
    go_wp2_with fail
    exact bodyPost_ret (v := .tuple #[.agg #[.slice none 0 0], .bool false]) (by simp [results, Try.results52, go_sem]) rfl ⟨_, by rw [ansB_no (unhide E0)], by rw [ansL_no (unhide E0)]; exact Row.nil _ _ _ _ _, (Kept.refl 0 0 w).alloc _⟩
  have hlen' : ¬ (400 : Int) < (bs.length : Int) := by omega
  by_cases hne : bs.length = 0
  · have E0 := hide (readOk_dig (isDig_nil hne))
    have hbs : bs = [] := List.length_eq_zero_iff.1 hne
    subst hbs
    clear r HAT0 hne
    go_enter Try.func52, Try.ntmps52
    go_wp2_with fail
    exact bodyPost_ret (v := .tuple #[.agg #[.slice none 0 0], .bool false]) (by simp [results, Try.results52, go_sem]) rfl ⟨_, by rw [ansB_no (unhide E0)], by rw [ansL_no (unhide E0)]; exact Row.nil _ _ _ _ _, (Kept.refl 0 0 w).alloc _⟩
  have hne' : ((bs.length : Int) == 0) = false := beq_eq_false_iff_ne.2 (by omega)
  have hpos : (0 : Int) < (bs.length : Int) := by omega
  have hposN : 0 < bs.length := by omega
  obtain ⟨g0, o0, rfl, x0⟩ := unhide HAT0 0 (by omega)
  rw [Nat.add_zero] at x0
  have x0' := old_cell (.cells #[.slice none 0 0] 26) x0
  by_cases hbad : 1 < bs.length ∧ bs.getD 0 0 = 48
  · obtain ⟨h1, h0⟩ := hbad
    have E0 := hide (readOk_nought h1 h0)
    have h1' : (1 : Int) < (bs.length : Int) := by omega
    rw [h0] at x0 x0'
    clear r HAT0 h0
    go_enter Try.func52, Try.ntmps52
    go_wp2_with fail
    exact bodyPost_ret (v := .tuple #[.agg #[.slice none 0 0], .bool false]) (by simp [results, Try.results52, go_sem]) rfl ⟨_, by rw [ansB_no (unhide E0)], by rw [ansL_no (unhide E0)]; exact Row.nil _ _ _ _ _, (Kept.refl 0 0 w).alloc _⟩
  have k0 := ((Kept.refl 0 0 w).alloc (.cells #[.slice none 0 0] 26)).alloc (.cells #[.slice none 0 0] 64)
  have c3 : ((w.alloc (.cells #[.slice none 0 0] 26)).alloc (.cells #[.slice none 0 0] 64)).cell? ⟨w.heap.size, 0, none⟩ = some (.slice none 0 0) := old_cell _ (new_cell_at _ _ _ _ rfl)
  have f3 : ((w.alloc (.cells #[.slice none 0 0] 26)).alloc (.cells #[.slice none 0 0] 64)).frozen? ⟨w.heap.size, 0, none⟩ = false := loose_old (by simp) (new_loose _ _ _ _ rfl)
  have n0 : Num (w.heap.size + 2) ((w.alloc (.cells #[.slice none 0 0] 26)).alloc (.cells #[.slice none 0 0] 64)) (w.heap.size + 1) (.slice none 0 0) [] := ⟨new_cell_at _ _ _ _ (by simp), new_loose _ _ _ _ (by simp), World.ownsRow_nil _ _ _ _, by simp [Value.ownBlock]⟩
  have s0 : ((w.alloc (.cells #[.slice none 0 0] 26)).alloc (.cells #[.slice none 0 0] 64)).heap.size = w.heap.size + 2 := by simp
  have S0 := hide s0
  have N0 := hide n0
  have HK0 := hide k0
  have HC3 := hide c3
  have HF3 := hide f3
  clear r c3 f3 n0 k0 s0
  by_cases h0 : bs.getD 0 0 = 48
  · have h1' : ¬ (1 : Int) < (bs.length : Int) := by omega
    rw [h0] at x0 x0'
    go_enter Try.func52, Try.ntmps52
    go_wp2_with fail
    clear x0 x0'
    generalize (w.alloc (.cells #[.slice none 0 0] 26)).alloc (.cells #[.slice none 0 0] 64) = W at *
    go_loopw [29] (fun ii wr => ∃ (i : Nat) (u : Value), ii = .int .i64 (i : Int) ∧ i ≤ bs.length ∧ Hid (∀ j, j < i → 48 ≤ bs.getD j 0 ∧ bs.getD j 0 ≤ 57) ∧ wr.cell? ⟨w.heap.size, 0, none⟩ = some (.slice none 0 0) ∧ wr.frozen? ⟨w.heap.size, 0, none⟩ = false ∧ Num (w.heap.size + 2) wr (w.heap.size + 1) u (limbs (digN (bs.take i))) ∧ (limbs (digN (bs.take i))).length ≤ i ∧ w.heap.size + 2 ≤ wr.heap.size ∧ Kept 0 0 w wr) (fun ii _ => bs.length - (intOf ii).toNat)
    case atStart => exact ⟨0, _, rfl, Nat.zero_le _, hide (fun j h => by omega), unhide HC3, unhide HF3, by simpa [digN, limbs_zero] using unhide N0, by simp [digN, limbs_zero], Nat.le_of_eq (unhide S0).symm, unhide HK0⟩
    case round =>
      clear HC3 HF3 N0 HK0 S0
      obtain ⟨i, u, rfl, hi, hp, c3, f3, n, hln, hsz, kk⟩ := hrel
      by_cases hA : i < bs.length
      · have hi1 : (i : Int) < (bs.length : Int) := by omega
        obtain ⟨gB, oB, eB, xb⟩ := unhide HAT0 i hA
        cases eB
        replace xb := kk.cell0 xb
        by_cases hd : 48 ≤ bs.getD i 0 ∧ bs.getD i 0 ≤ 57
        · have hfold := dig_fold bs i hA hd
          have hln2 := limbs_ten (digN (bs.take i)) i (bs.getD i 0 - 48).toNat hln (by omega)
          rw [← digN_step bs i hA] at hln2
          have HP2 : Hid (∀ j, j < i + 1 → 48 ≤ bs.getD j 0 ∧ bs.getD j 0 ≤ 57) := fun j h => by
            by_cases e : j = i
            · subst e; exact hd
            · exact unhide hp j (by omega)
          have HLN2 := hide hln2
          generalize hz : bs.getD i 0 = z at *
          have h1 : ¬ z < 48 := by omega
          have h2 : ¬ 57 < z := by omega
          have hw8 : IntKind.u8.wrap (z - 48) = z - 48 := by rw [IntKind.wrap_u8]; omega
          have hw6 : IntKind.i64.wrap (z - 48) = z - 48 := wrap_small _ (by omega) (by omega)
          have N1 := hide n
          clear hz hln2 hp n
          go_wp2_with fail
          refine (appendDigit_impl _ (unhide N1) hsz (limbs_nrm _) (by omega) (z - 48) (by omega)).mono ?_
          rintro e w5 ⟨⟨r5, rfl⟩, u5, n5, m5⟩
          rw [hfold] at n5
          have hS : ∀ i, Own1 (w.heap.size + 1) u i → w.heap.size + 1 ≤ i := fun i e => e.elim (fun e => by omega) (fun e => by have := ((unhide N1).own.lt i e).1; omega)
          have c5 := m5.cellAt (fun e => Nat.not_succ_le_self _ (hS _ e)) c3
          have f5 := m5.looseAt (fun e => Nat.not_succ_le_self _ (hS _ e)) (World.block_lt_of_cell? _ _ c3) f3
          have k5 := kk.mod m5 (fun i e => by have := hS i e; omega)
          have z5 := m5.size
          clear m5 hS kk N1 c3 f3
          go_wp2
          go_roundw
          case rel => exact ⟨i + 1, u5, by go_num, by omega, HP2, c5, f5, n5, unhide HLN2, by omega, k5⟩
          case measure => simp [intOf]; omega
        · have E0 := hide (readOk_dig (isDig_not i hA hd))
          have K0 := hide (kk.setNew (p := ⟨w.heap.size, 0, none⟩) (Nat.le_refl _) (.slice none 0 0))
          by_cases h1 : bs.getD i 0 < 48
          · generalize bs.getD i 0 = z at *
            clear hp n kk
            go_wp2_with fail
            exact bodyPost_ret (v := .tuple #[.agg #[.slice none 0 0], .bool false]) (by simp [results, Try.results52, go_sem, c3]) rfl ⟨_, by rw [ansB_no (unhide E0)], by rw [ansL_no (unhide E0)]; exact Row.nil _ _ _ _ _, unhide K0⟩
          · have h2 : 57 < bs.getD i 0 := by omega
            generalize bs.getD i 0 = z at *
            clear hp n kk
            go_wp2_with fail
            exact bodyPost_ret (v := .tuple #[.agg #[.slice none 0 0], .bool false]) (by simp [results, Try.results52, go_sem, c3]) rfl ⟨_, by rw [ansB_no (unhide E0)], by rw [ansL_no (unhide E0)]; exact Row.nil _ _ _ _ _, unhide K0⟩
      · have hi1 : ¬ (i : Int) < (bs.length : Int) := by omega
        have hdg := isDig_of hne (fun j hj => unhide hp j (by omega))
        have E1 := hide (readOk_yes (by omega) hdg hbad)
        rw [List.take_of_length_le (by omega)] at n hln
        clear hp hdg
        go_wp2_with fail
        refine (told_impl _ n).mono ?_
        rintro e w7 ⟨v7, rfl, r7, k7⟩
        generalize hzz : tell (limbs (digN bs)) = zz at *
        generalize hbb : decide ((limbs (digN bs)).length ≤ 100) = bb at *
        have HZ : Hid (ansL (readOk bs) (digN bs) = zz) := by show _ = _; rw [ansL_yes (unhide E1), hzz]
        have HB : Hid (ansB (readOk bs) (digN bs) = bb) := by show _ = _; rw [ansB_yes (unhide E1), hbb]
        have b6 := World.block_lt_of_cell? _ _ c3
        dsimp only at b6
        replace f3 := k7.loose0 b6 f3
        replace c3 := k7.cell0 c3
        replace kk := kk.trans k7
        obtain ⟨a7, d7, rfl⟩ := Row.form' r7
        have R := hide ((r7.set_other (p := ⟨w.heap.size, 0, none⟩) (.inl b6) (.slice a7 zz.length d7)).tight.wider (lo' := w.heap.size) (by omega) (Nat.le_refl _))
        have K7 := hide (kk.setNew (p := ⟨w.heap.size, 0, none⟩) (Nat.le_refl _) (.slice a7 zz.length d7))
        clear r7 k7 n hzz hbb kk
        go_wp2_with fail
        exact bodyPost_ret (v := .tuple #[.agg #[.slice a7 zz.length d7], .bool bb]) (by simp [results, Try.results52, go_sem, c3]) rfl ⟨_, by rw [unhide HB], by rw [unhide HZ]; exact unhide R, unhide K7⟩
  · have h00 : (bs.getD 0 0 == 48) = false := beq_eq_false_iff_ne.2 h0
    generalize bs.getD 0 0 = z0 at x0 x0' h00
    go_enter Try.func52, Try.ntmps52
    go_wp2_with fail
    clear x0 x0' h00
    generalize (w.alloc (.cells #[.slice none 0 0] 26)).alloc (.cells #[.slice none 0 0] 64) = W at *
    go_loopw [29] (fun ii wr => ∃ (i : Nat) (u : Value), ii = .int .i64 (i : Int) ∧ i ≤ bs.length ∧ Hid (∀ j, j < i → 48 ≤ bs.getD j 0 ∧ bs.getD j 0 ≤ 57) ∧ wr.cell? ⟨w.heap.size, 0, none⟩ = some (.slice none 0 0) ∧ wr.frozen? ⟨w.heap.size, 0, none⟩ = false ∧ Num (w.heap.size + 2) wr (w.heap.size + 1) u (limbs (digN (bs.take i))) ∧ (limbs (digN (bs.take i))).length ≤ i ∧ w.heap.size + 2 ≤ wr.heap.size ∧ Kept 0 0 w wr) (fun ii _ => bs.length - (intOf ii).toNat)
    case atStart => exact ⟨0, _, rfl, Nat.zero_le _, hide (fun j h => by omega), unhide HC3, unhide HF3, by simpa [digN, limbs_zero] using unhide N0, by simp [digN, limbs_zero], Nat.le_of_eq (unhide S0).symm, unhide HK0⟩
    case round =>
      clear HC3 HF3 N0 HK0 S0
      obtain ⟨i, u, rfl, hi, hp, c3, f3, n, hln, hsz, kk⟩ := hrel
      by_cases hA : i < bs.length
      · have hi1 : (i : Int) < (bs.length : Int) := by omega
        obtain ⟨gB, oB, eB, xb⟩ := unhide HAT0 i hA
        cases eB
        replace xb := kk.cell0 xb
        by_cases hd : 48 ≤ bs.getD i 0 ∧ bs.getD i 0 ≤ 57
        · have hfold := dig_fold bs i hA hd
          have hln2 := limbs_ten (digN (bs.take i)) i (bs.getD i 0 - 48).toNat hln (by omega)
          rw [← digN_step bs i hA] at hln2
          have HP2 : Hid (∀ j, j < i + 1 → 48 ≤ bs.getD j 0 ∧ bs.getD j 0 ≤ 57) := fun j h => by
            by_cases e : j = i
            · subst e; exact hd
            · exact unhide hp j (by omega)
          have HLN2 := hide hln2
          generalize hz : bs.getD i 0 = z at *
          have h1 : ¬ z < 48 := by omega
          have h2 : ¬ 57 < z := by omega
          have hw8 : IntKind.u8.wrap (z - 48) = z - 48 := by rw [IntKind.wrap_u8]; omega
          have hw6 : IntKind.i64.wrap (z - 48) = z - 48 := wrap_small _ (by omega) (by omega)
          have N1 := hide n
          clear hz hln2 hp n
          go_wp2_with fail
          refine (appendDigit_impl _ (unhide N1) hsz (limbs_nrm _) (by omega) (z - 48) (by omega)).mono ?_
          rintro e w5 ⟨⟨r5, rfl⟩, u5, n5, m5⟩
          rw [hfold] at n5
          have hS : ∀ i, Own1 (w.heap.size + 1) u i → w.heap.size + 1 ≤ i := fun i e => e.elim (fun e => by omega) (fun e => by have := ((unhide N1).own.lt i e).1; omega)
          have c5 := m5.cellAt (fun e => Nat.not_succ_le_self _ (hS _ e)) c3
          have f5 := m5.looseAt (fun e => Nat.not_succ_le_self _ (hS _ e)) (World.block_lt_of_cell? _ _ c3) f3
          have k5 := kk.mod m5 (fun i e => by have := hS i e; omega)
          have z5 := m5.size
          clear m5 hS kk N1 c3 f3
          go_wp2
          go_roundw
          case rel => exact ⟨i + 1, u5, by go_num, by omega, HP2, c5, f5, n5, unhide HLN2, by omega, k5⟩
          case measure => simp [intOf]; omega
        · have E0 := hide (readOk_dig (isDig_not i hA hd))
          have K0 := hide (kk.setNew (p := ⟨w.heap.size, 0, none⟩) (Nat.le_refl _) (.slice none 0 0))
          by_cases h1 : bs.getD i 0 < 48
          · generalize bs.getD i 0 = z at *
            clear hp n kk
            go_wp2_with fail
            exact bodyPost_ret (v := .tuple #[.agg #[.slice none 0 0], .bool false]) (by simp [results, Try.results52, go_sem, c3]) rfl ⟨_, by rw [ansB_no (unhide E0)], by rw [ansL_no (unhide E0)]; exact Row.nil _ _ _ _ _, unhide K0⟩
          · have h2 : 57 < bs.getD i 0 := by omega
            generalize bs.getD i 0 = z at *
            clear hp n kk
            go_wp2_with fail
            exact bodyPost_ret (v := .tuple #[.agg #[.slice none 0 0], .bool false]) (by simp [results, Try.results52, go_sem, c3]) rfl ⟨_, by rw [ansB_no (unhide E0)], by rw [ansL_no (unhide E0)]; exact Row.nil _ _ _ _ _, unhide K0⟩
      · have hi1 : ¬ (i : Int) < (bs.length : Int) := by omega
        have hdg := isDig_of hne (fun j hj => unhide hp j (by omega))
        have E1 := hide (readOk_yes (by omega) hdg hbad)
        rw [List.take_of_length_le (by omega)] at n hln
        clear hp hdg
        go_wp2_with fail
        refine (told_impl _ n).mono ?_
        rintro e w7 ⟨v7, rfl, r7, k7⟩
        generalize hzz : tell (limbs (digN bs)) = zz at *
        generalize hbb : decide ((limbs (digN bs)).length ≤ 100) = bb at *
        have HZ : Hid (ansL (readOk bs) (digN bs) = zz) := by show _ = _; rw [ansL_yes (unhide E1), hzz]
        have HB : Hid (ansB (readOk bs) (digN bs) = bb) := by show _ = _; rw [ansB_yes (unhide E1), hbb]
        have b6 := World.block_lt_of_cell? _ _ c3
        dsimp only at b6
        replace f3 := k7.loose0 b6 f3
        replace c3 := k7.cell0 c3
        replace kk := kk.trans k7
        obtain ⟨a7, d7, rfl⟩ := Row.form' r7
        have R := hide ((r7.set_other (p := ⟨w.heap.size, 0, none⟩) (.inl b6) (.slice a7 zz.length d7)).tight.wider (lo' := w.heap.size) (by omega) (Nat.le_refl _))
        have K7 := hide (kk.setNew (p := ⟨w.heap.size, 0, none⟩) (Nat.le_refl _) (.slice a7 zz.length d7))
        clear r7 k7 n hzz hbb kk
        go_wp2_with fail
        exact bodyPost_ret (v := .tuple #[.agg #[.slice a7 zz.length d7], .bool bb]) (by simp [results, Try.results52, go_sem, c3]) rfl ⟨_, by rw [unhide HB], by rw [unhide HZ]; exact unhide R, unhide K7⟩

end Go.Proofs.Ytolciidbkhkfgaa
