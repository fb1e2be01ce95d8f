/-
  Contracts of NatRead, the model's and the program's.
-/
import Derived.Test.YtmmlembpfmichaaINat24
import Derived.Test.YtmmlembpfmichaaINat12
import Derived.Test.YtmmlembpfmichaaNat14
import Derived.Test.YtmmlembpfmichaaBC
namespace Go.Proofs.Ytmmlembpfmichaa
open Go.RowKit
set_option linter.unusedVariables false
set_option maxRecDepth 8000
set_option linter.unusedSimpArgs false

/-- May the text be read? -/
def readOk (bs : List Int) : Bool := decide (bs.length ≤ 400) && isDig bs && !(decide (1 < bs.length) && decide (bs.getD 0 0 = 48))
theorem readOk_long {bs : List Int} (h : 400 < bs.length) : readOk bs = false := by unfold readOk; rw [decide_eq_false (by omega)]; rfl
theorem readOk_dig {bs : List Int} (h : isDig bs = false) : readOk bs = false := by unfold readOk; rw [h, Bool.and_false]; rfl
theorem readOk_nought {bs : List Int} (h : 1 < bs.length) (h0 : bs.getD 0 0 = 48) : readOk bs = false := by unfold readOk; rw [decide_eq_true h, decide_eq_true h0]; simp
theorem readOk_yes {bs : List Int} (h : bs.length ≤ 400) (hd : isDig bs = true) (h0 : ¬ (1 < bs.length ∧ bs.getD 0 0 = 48)) : readOk bs = true := by
  unfold readOk
  rw [decide_eq_true h, hd, ← Bool.decide_and, decide_eq_false h0]; rfl

theorem dig_fold (bs : List Int) (i : Nat) (h : i < bs.length) (hd : 48 ≤ bs.getD i 0 ∧ bs.getD i 0 ≤ 57) : (10 * val (limbs (digN (bs.take i))) + (bs.getD i 0 - 48)).toNat = digN (bs.take (i + 1)) := by
  rw [limbs_val, digN_step bs i h]
  omega

/-- Where the digits are good, the number is there. -/
def DigOk (D : Bool) (b : Nat) (w : World) (g : Nat) (zs : List Int) : Prop := D = true → ∃ u, Num b w g u zs

set_option maxHeartbeats 8000000 in
theorem readDigits_impl {w0 w : World} {b g : Nat} {bw : Bool} {lo hi : Nat} {v u : Value} {bs : List Int} (r : Row .u8 bw lo hi w0 v bs) (k : Kept 0 0 w0 w) (n : Num b w g u []) (hg : w0.heap.size ≤ g) (hb : w0.heap.size ≤ b) (hsz : b ≤ w.heap.size) (hlen : bs.length ≤ 400) :
    Calls Try.prog 17 #[.pointer (some ⟨g, 0, none⟩), v] w fun e w' => e = .returned (.bool (isDig bs)) ∧ DigOk (isDig bs) b w' g (limbs (digN bs)) ∧ Kept 0 0 w0 w' := by
  obtain ⟨a, c, rfl⟩ := Row.form' r
  have hm := r.len
  unfold maxLen at hm
  have HAT0 := hide ((row_cell r).2.2.2)
  obtain ⟨D, hD⟩ : ∃ D, isDig bs = D := ⟨_, rfl⟩
  rw [hD]
  have HD := hide hD
  have N0 := hide n
  have HK0 := hide k
  clear r n k hD
  go_enter Try.func17, Try.ntmps17
  go_wp2_with fail
  go_loopw [9] (fun ii wr => ∃ (i : Nat) (u : Value), ii = .int .i64 (i : Int) ∧ i ≤ bs.length ∧ Hid (∀ j, j < i → 48 ≤ bs.getD j 0 ∧ bs.getD j 0 ≤ 57) ∧ Num b wr g u (limbs (digN (bs.take i))) ∧ (limbs (digN (bs.take i))).length ≤ i ∧ b ≤ wr.heap.size ∧ Kept 0 0 w0 wr) (fun ii _ => bs.length - (intOf ii).toNat)
  case atStart => exact ⟨0, _, rfl, Nat.zero_le _, hide (fun j h => by omega), by simpa [digN, limbs_zero] using unhide N0, by simp [digN, limbs_zero], hsz, unhide HK0⟩
  case round =>
    clear N0 HK0
    obtain ⟨i, u, rfl, hi, hp, n, hln, hsz, kk⟩ := hrel
    by_cases hA : i < bs.length
    · have hi1 : (i : Int) < (bs.length : Int) := by omega
      obtain ⟨gB, oB, rfl, xb⟩ := unhide HAT0 i hA
      replace xb := kk.cell0 xb
      by_cases hd : 48 ≤ bs.getD i 0 ∧ bs.getD i 0 ≤ 57
      · have hfold := dig_fold bs i hA hd
        have hln2 := limbs_ten (digN (bs.take i)) i (bs.getD i 0 - 48).toNat hln (by omega)
        rw [← digN_step bs i hA] at hln2
        have HP2 : Hid (∀ j, j < i + 1 → 48 ≤ bs.getD j 0 ∧ bs.getD j 0 ≤ 57) := fun j h => by
          by_cases e : j = i
          · subst e; exact hd
          · exact unhide hp j (by omega)
        have HLN2 := hide hln2
        generalize hz : bs.getD i 0 = z at *
        have h1 : ¬ z < 48 := by omega
        have h2 : ¬ 57 < z := by omega
        have hw8 : IntKind.u8.wrap (z - 48) = z - 48 := by rw [IntKind.wrap_u8]; omega
        have hw6 : IntKind.i64.wrap (z - 48) = z - 48 := wrap_small _ (by omega) (by omega)
        have N1 := hide n
        clear hz hln2 hp n
        go_wp2_with fail
        refine (appendDigit_impl _ (unhide N1) hsz (limbs_nrm _) (by omega) (z - 48) (by omega)).mono ?_
        rintro e w5 ⟨⟨r5, rfl⟩, u5, n5, m5⟩
        rw [hfold] at n5
        have k5 := kk.mod m5 (fun i e => e.elim (fun e => by omega) (fun e => by have := ((unhide N1).own.lt i e).1; omega))
        have z5 := m5.size
        clear m5 kk N1
        go_wp2
        go_roundw
        case rel => exact ⟨i + 1, u5, by go_num, by omega, HP2, n5, unhide HLN2, by omega, k5⟩
        case measure => simp [intOf]; omega
      · have hF : D = false := by rw [← unhide HD]; exact isDig_not i hA hd
        subst hF
        have K0 := hide kk
        by_cases h1 : bs.getD i 0 < 48
        · generalize bs.getD i 0 = z at *
          clear hp n kk
          go_wp2_with fail
          go_ret
          exact ⟨rfl, (fun h => by cases h), unhide K0⟩
        · have h2 : 57 < bs.getD i 0 := by omega
          generalize bs.getD i 0 = z at *
          clear hp n kk
          go_wp2_with fail
          go_ret
          exact ⟨rfl, (fun h => by cases h), unhide K0⟩
    · have hi1 : ¬ (i : Int) < (bs.length : Int) := by omega
      rw [List.take_of_length_le (by omega)] at n hln
      by_cases hne : bs.length = 0
      · have hF : D = false := by rw [← unhide HD]; exact isDig_nil hne
        subst hF
        have hbs : bs = [] := List.length_eq_zero_iff.1 hne
        subst hbs
        have K0 := hide kk
        clear hp n kk HAT0 hne
        go_wp2_with fail
        go_ret
        exact ⟨rfl, (fun h => by cases h), unhide K0⟩
      · have hT : D = true := by rw [← unhide HD]; exact isDig_of hne (fun j hj => unhide hp j (by omega))
        subst hT
        have hpos : (0 : Int) < (bs.length : Int) := by omega
        have K0 := hide kk
        have N1 := hide n
        clear hp n kk HAT0
        go_wp2_with fail
        go_ret
        exact ⟨by simp; omega, (fun _ => ⟨u, unhide N1⟩), unhide K0⟩

set_option maxHeartbeats 8000000 in
theorem natRead_impl {bw : Bool} {lo hi : Nat} {v : Value} {bs : List Int} (w : World) (r : Row .u8 bw lo hi w v bs) :
    Calls Try.prog 7 #[v] w fun e w' => ∃ v', e = .returned (.tuple #[.agg #[v'], .bool (ansB (readOk bs) (digN bs))]) ∧ Row .i64 true w.heap.size w'.heap.size w' v' (ansL (readOk bs) (digN bs)) ∧ Kept 0 0 w w' := by
  obtain ⟨a, c, rfl⟩ := Row.form' r
  have hm := r.len
  unfold maxLen at hm
  have HAT0 := hide ((row_cell r).2.2.2)
  by_cases hlen : 400 < bs.length
  · have E0 := hide (readOk_long hlen)
    have hlen' : (400 : Int) < (bs.length : Int) := by omega
    clear r HAT0
    go_enter Try.func7, Try.ntmps7
    go_wp2_with fail
    exact bodyPost_ret (v := .tuple #[.agg #[.slice none 0 0], .bool false]) (by simp [results, Try.results7, go_sem]) rfl ⟨_, by rw [ansB_no (unhide E0)], by rw [ansL_no (unhide E0)]; exact Row.nil _ _ _ _ _, (Kept.refl 0 0 w).alloc _⟩
  have hlen' : ¬ (400 : Int) < (bs.length : Int) := by omega
  have k0 := (Kept.refl 0 0 w).alloc (.cells #[.slice none 0 0] 25)
  have r1 := r.kept k0 (by omega)
  have c3 : (w.alloc (.cells #[.slice none 0 0] 25)).cell? ⟨w.heap.size, 0, none⟩ = some (.slice none 0 0) := new_cell_at _ _ _ _ rfl
  have f3 : (w.alloc (.cells #[.slice none 0 0] 25)).frozen? ⟨w.heap.size, 0, none⟩ = false := new_loose _ _ _ _ rfl
  have s0 : (w.alloc (.cells #[.slice none 0 0] 25)).heap.size = w.heap.size + 1 := by simp
  have n0 : Num (w.heap.size + 2) ((w.alloc (.cells #[.slice none 0 0] 25)).alloc (.cells #[.slice none 0 0] 40)) (w.heap.size + 1) (.slice none 0 0) [] := ⟨new_cell_at _ _ _ _ (by simp), new_loose _ _ _ _ (by simp), World.ownsRow_nil _ _ _ _, by simp [Value.ownBlock]⟩
  have k1 : Kept 0 0 (w.alloc (.cells #[.slice none 0 0] 25)) ((w.alloc (.cells #[.slice none 0 0] 25)).alloc (.cells #[.slice none 0 0] 40)) := (Kept.refl 0 0 _).alloc _
  have s1 : ((w.alloc (.cells #[.slice none 0 0] 25)).alloc (.cells #[.slice none 0 0] 40)).heap.size = w.heap.size + 2 := by simp
  have rd := readDigits_impl r1 k1 n0 (by rw [s0]; omega) (by rw [s0]; omega) (by rw [s1]; omega) (by omega)
  have RD := hide rd
  have C3 := hide c3
  have F3 := hide f3
  have HK := hide k0
  clear r1 n0 k1 s1 rd k0 c3 f3
  have fin : ∀ (D : Bool), isDig bs = D → ¬ (1 < bs.length ∧ bs.getD 0 0 = 48) → True := fun _ _ _ => trivial
  clear fin
  by_cases hbad : 1 < bs.length ∧ bs.getD 0 0 = 48
  · obtain ⟨h1, h0⟩ := hbad
    have E0 := hide (readOk_nought h1 h0)
    have h1' : (1 : Int) < (bs.length : Int) := by omega
    obtain ⟨g0, o0, rfl, x0⟩ := unhide HAT0 0 (by omega)
    rw [Nat.add_zero, h0] at x0
    have x0' := old_cell (.cells #[.slice none 0 0] 25) x0
    have hpos : (0 : Int) < (bs.length : Int) := by omega
    clear r HAT0 h0 RD
    go_enter Try.func7, Try.ntmps7
    go_wp2_with fail
    exact bodyPost_ret (v := .tuple #[.agg #[.slice none 0 0], .bool false]) (by simp [results, Try.results7, go_sem]) rfl ⟨_, by rw [ansB_no (unhide E0)], by rw [ansL_no (unhide E0)]; exact Row.nil _ _ _ _ _, (Kept.refl 0 0 w).alloc _⟩
  cases hdg : isDig bs
  · have E0 := hide (readOk_dig hdg)
    rw [hdg] at RD
    clear hdg
    by_cases h1 : 1 < bs.length
    · have h1' : (1 : Int) < (bs.length : Int) := by omega
      have hpos : (0 : Int) < (bs.length : Int) := by omega
      have h0 : (bs.getD 0 0 == 48) = false := beq_eq_false_iff_ne.2 (fun e => hbad ⟨h1, e⟩)
      obtain ⟨g0, o0, rfl, x0⟩ := unhide HAT0 0 (by omega)
      rw [Nat.add_zero] at x0
      have x0' := old_cell (.cells #[.slice none 0 0] 25) x0
      generalize bs.getD 0 0 = z0 at x0 x0' h0
      clear r HAT0 hbad
      go_enter Try.func7, Try.ntmps7
      go_wp2_with fail
      refine (unhide RD).mono ?_
      rintro e w5 ⟨rfl, -, k5⟩
      have c3 := k5.cell0 (unhide C3)
      have f3 := k5.loose0 (by simp) (unhide F3)
      have K5 := hide (((unhide HK).trans k5).setNew (p := ⟨w.heap.size, 0, none⟩) (Nat.le_refl _) (.slice none 0 0))
      clear x0 x0' h0 RD k5
      go_wp2_with fail
      exact bodyPost_ret (v := .tuple #[.agg #[.slice none 0 0], .bool false]) (by simp [results, Try.results7, go_sem, c3]) rfl ⟨_, by rw [ansB_no (unhide E0)], by rw [ansL_no (unhide E0)]; exact Row.nil _ _ _ _ _, unhide K5⟩
    · have h1' : ¬ (1 : Int) < (bs.length : Int) := by omega
      clear r HAT0 hbad
      go_enter Try.func7, Try.ntmps7
      go_wp2_with fail
      refine (unhide RD).mono ?_
      rintro e w5 ⟨rfl, -, k5⟩
      have c3 := k5.cell0 (unhide C3)
      have f3 := k5.loose0 (by simp) (unhide F3)
      have K5 := hide (((unhide HK).trans k5).setNew (p := ⟨w.heap.size, 0, none⟩) (Nat.le_refl _) (.slice none 0 0))
      clear RD k5
      go_wp2_with fail
      exact bodyPost_ret (v := .tuple #[.agg #[.slice none 0 0], .bool false]) (by simp [results, Try.results7, go_sem, c3]) rfl ⟨_, by rw [ansB_no (unhide E0)], by rw [ansL_no (unhide E0)]; exact Row.nil _ _ _ _ _, unhide K5⟩
  have E1 := hide (readOk_yes (by omega) hdg hbad)
  rw [hdg] at RD
  clear hdg
  by_cases h1 : 1 < bs.length
  · have h1' : (1 : Int) < (bs.length : Int) := by omega
    have hpos : (0 : Int) < (bs.length : Int) := by omega
    have h0 : (bs.getD 0 0 == 48) = false := beq_eq_false_iff_ne.2 (fun e => hbad ⟨h1, e⟩)
    obtain ⟨g0, o0, rfl, x0⟩ := unhide HAT0 0 (by omega)
    rw [Nat.add_zero] at x0
    have x0' := old_cell (.cells #[.slice none 0 0] 25) x0
    generalize bs.getD 0 0 = z0 at x0 x0' h0
    clear r HAT0 hbad
    go_enter Try.func7, Try.ntmps7
    go_wp2_with fail
    refine (unhide RD).mono ?_
    rintro e w5 ⟨rfl, h5, k5⟩
    obtain ⟨u5, n5⟩ := h5 rfl
    clear h5
    have c3 := k5.cell0 (unhide C3)
    have f3 := k5.loose0 (by simp) (unhide F3)
    have kk := (unhide HK).trans k5
    clear x0 x0' h0 RD k5 h1 h1' hpos
    go_wp2_with fail
    refine (told_impl _ n5).mono ?_
    rintro e w7 ⟨v7, rfl, r7, k7⟩
    generalize hzz : tell (limbs (digN bs)) = zz at *
    generalize hbb : decide ((limbs (digN bs)).length ≤ 100) = bb at *
    have HZ : Hid (ansL (readOk bs) (digN bs) = zz) := by show _ = _; rw [ansL_yes (unhide E1), hzz]
    have HB : Hid (ansB (readOk bs) (digN bs) = bb) := by show _ = _; rw [ansB_yes (unhide E1), hbb]
    have b6 := World.block_lt_of_cell? _ _ c3
    dsimp only at b6
    replace f3 := k7.loose0 b6 f3
    replace c3 := k7.cell0 c3
    replace kk := kk.trans k7
    obtain ⟨a7, d7, rfl⟩ := Row.form' r7
    have R := hide ((r7.set_other (p := ⟨w.heap.size, 0, none⟩) (.inl b6) (.slice a7 zz.length d7)).tight.wider (lo' := w.heap.size) (by omega) (Nat.le_refl _))
    have K7 := hide (kk.setNew (p := ⟨w.heap.size, 0, none⟩) (Nat.le_refl _) (.slice a7 zz.length d7))
    clear r7 k7 n5 hzz hbb kk
    go_wp2_with fail
    exact bodyPost_ret (v := .tuple #[.agg #[.slice a7 zz.length d7], .bool bb]) (by simp [results, Try.results7, go_sem, c3]) rfl ⟨_, by rw [unhide HB], by rw [unhide HZ]; exact unhide R, unhide K7⟩
  · have h1' : ¬ (1 : Int) < (bs.length : Int) := by omega
    clear r HAT0 hbad
    go_enter Try.func7, Try.ntmps7
    go_wp2_with fail
    refine (unhide RD).mono ?_
    rintro e w5 ⟨rfl, h5, k5⟩
    obtain ⟨u5, n5⟩ := h5 rfl
    clear h5
    have c3 := k5.cell0 (unhide C3)
    have f3 := k5.loose0 (by simp) (unhide F3)
    have kk := (unhide HK).trans k5
    clear RD k5 h1 h1'
    go_wp2_with fail
    refine (told_impl _ n5).mono ?_
    rintro e w7 ⟨v7, rfl, r7, k7⟩
    generalize hzz : tell (limbs (digN bs)) = zz at *
    generalize hbb : decide ((limbs (digN bs)).length ≤ 100) = bb at *
    have HZ : Hid (ansL (readOk bs) (digN bs) = zz) := by show _ = _; rw [ansL_yes (unhide E1), hzz]
    have HB : Hid (ansB (readOk bs) (digN bs) = bb) := by show _ = _; rw [ansB_yes (unhide E1), hbb]
    have b6 := World.block_lt_of_cell? _ _ c3
    dsimp only at b6
    replace f3 := k7.loose0 b6 f3
    replace c3 := k7.cell0 c3
    replace kk := kk.trans k7
    obtain ⟨a7, d7, rfl⟩ := Row.form' r7
    have R := hide ((r7.set_other (p := ⟨w.heap.size, 0, none⟩) (.inl b6) (.slice a7 zz.length d7)).tight.wider (lo' := w.heap.size) (by omega) (Nat.le_refl _))
    have K7 := hide (kk.setNew (p := ⟨w.heap.size, 0, none⟩) (Nat.le_refl _) (.slice a7 zz.length d7))
    clear r7 k7 n5 hzz hbb kk
    go_wp2_with fail
    exact bodyPost_ret (v := .tuple #[.agg #[.slice a7 zz.length d7], .bool bb]) (by simp [results, Try.results7, go_sem, c3]) rfl ⟨_, by rw [unhide HB], by rw [unhide HZ]; exact unhide R, unhide K7⟩

end Go.Proofs.Ytmmlembpfmichaa
