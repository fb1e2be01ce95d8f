/-
  The walk of the law FnRunes: whatever is drawn, its runes, written again, are the text just if it is clean.
-/
import Derived.Test.YtbcojphjohpmdaaDraw2
import Derived.Test.YtbcojphjohpmdaaClean
namespace Go.Proofs.Ytbcojphjohpmdaa
open Go.RowKit
set_option linter.unusedVariables false

/-- Runes, written one behind the other. -/
def rbs : List Int → List Int
  | [] => []
  | r :: t => rb r ++ rbs t
theorem rbs_snoc (xs : List Int) (r : Int) : rbs (xs ++ [r]) = rbs xs ++ rb r := by
  induction xs with
  | nil => simp [rbs]
  | cons a t ih => simp [rbs, ih]
theorem rbs_take (xs : List Int) (k : Nat) (h : k < xs.length) : rbs (xs.take (k + 1)) = rbs (xs.take k) ++ rb (xs.getD k 0) := by
  rw [take_step xs k h, rbs_snoc]
theorem rbs_length (xs : List Int) : (rbs xs).length ≤ 4 * xs.length := by
  induction xs with
  | nil => simp [rbs]
  | cons r t ih => have := rb_length r; simp [rbs]; omega
theorem rbs_bytes (xs : List Int) : Bytes (rbs xs) := by
  induction xs with
  | nil => intro z hz; simp [rbs] at hz
  | cons r t ih => exact (rb_bytes r).app ih

/-- The runes from a place on, written, are the bytes from there on just if these are clean. -/
theorem rbs_clean (zs : List Int) (hb : Bytes zs) : ∀ f p, p ≤ zs.length → zs.length ≤ p + f → (rbs (runesL zs f p) = zs.drop p ↔ cleanL zs f p = true)
  | 0, p, h1, h2 => by
    have : zs.drop p = [] := List.drop_eq_nil_of_le (by omega)
    simp [runesL, rbs, cleanL, this]
  | f + 1, p, h1, h2 => by
    by_cases hp : p < zs.length
    · rw [runesL_step zs f p hp]
      obtain ⟨w1, w2, w3⟩ := drune_width zs p hp
      by_cases hbad : drune zs p = (65533, 1)
      · rw [cleanL_bad zs f p hp hbad]
        simp only [Bool.false_eq_true, iff_false]
        intro he
        rw [hbad] at he
        have e0 : rb 65533 = [239, 191, 189] := by decide
        simp only [rbs, e0] at he
        have hl : p + 3 ≤ zs.length := by
          have := congrArg List.length he
          simp at this; omega
        have hat : ∀ j, j < 3 → zs.getD (p + j) 0 = [239, 191, 189].getD j 0 := by
          intro j hj
          have h1 : (zs.drop p).getD j 0 = zs.getD (p + j) 0 := by simp [List.getD]
          rw [← h1, ← he]
          simp only [List.getD]
          rw [List.getElem?_append_left (by simpa using hj)]
        have := drune_rb zs p 65533 (by decide) (by rw [e0]; exact hl) (by rw [e0]; exact hat)
        rw [hbad, e0] at this
        simp at this
      · rw [cleanL_step zs f p hp hbad, ← rbs_clean zs hb f (p + (drune zs p).2.toNat) (by omega) (by omega)]
        simp only [rbs]
        rw [rb_drune zs hb p hp hbad]
        have hd : zs.drop p = (zs.drop p).take (drune zs p).2.toNat ++ zs.drop (p + (drune zs p).2.toNat) := by
          rw [← List.drop_drop]; exact (List.take_append_drop _ _).symm
        constructor
        · intro h
          exact List.append_cancel_left (h.trans hd)
        · intro h
          rw [h]
          exact hd.symm
    · rw [runesL_end zs _ p hp, cleanL_end zs _ p hp]
      have : zs.drop p = [] := List.drop_eq_nil_of_le (by omega)
      simp [rbs, this]

theorem str_inj {xs ys : List Int} (hx : Bytes xs) (hy : Bytes ys) (h : strOfNums xs = strOfNums ys) : xs = ys := by
  have hl : xs.length = ys.length := by rw [← str_size, ← str_size, h]
  apply List.ext_getElem hl
  intro i h1 h2
  have e1 := str_at xs hx i h1
  have e2 := str_at ys hy i h2
  rw [h, e2] at e1
  simp [List.getD, h1, h2] at e1
  exact e1.symm

set_option maxHeartbeats 400000 in
theorem sameBytes_any {b1 b2 : Bool} {l1 h1 l2 h2 : Nat} {v1 v2 : Value} {xs ys : List Int} (w : World) (r1 : Row .u8 b1 l1 h1 w v1 xs) (r2 : Row .u8 b2 l2 h2 w v2 ys) (hx : Bytes xs) (hy : Bytes ys) :
    Calls Try.prog 16 #[v1, v2] w fun e w' => e = .returned (.bool (decide (xs = ys))) ∧ w' = w := by
  have c1 := row_string (P := Try.prog) w 22 5 9 Try.underlying22 Try.underlying5 Try.underlying9 r1
  have c2 := row_string (P := Try.prog) w 22 5 9 Try.underlying22 Try.underlying5 Try.underlying9 r2
  go_enter Try.func16, Try.ntmps16
  go_wp2
  go_ret
  refine ⟨?_, rfl⟩
  have e : ((strOfNums xs).toList == (strOfNums ys).toList) = decide (xs = ys) := by
    by_cases h : xs = ys
    · subst h; simp
    · have h' : ¬ (strOfNums xs).toList = (strOfNums ys).toList := by
        intro e
        rw [ByteArray.toList_eq, ByteArray.toList_eq] at e
        exact h (str_inj hx hy (by
          have e2 := Array.toList_inj.1 e
          cases hs : strOfNums xs; cases ht : strOfNums ys
          rw [hs, ht] at e2
          simpa using e2))
      simp [h, h']
  rw [e]
  rfl

set_option maxHeartbeats 1000000 in
theorem drawRunes_any {bw : Bool} {lo hi : Nat} {v : Value} {zs : List Int} (w : World) (r : Row .u8 bw lo hi w v zs) (b : Bytes zs) :
    Calls Try.prog 11 #[v] w fun e w' => ∃ v' ys, e = .returned v' ∧ Row .u8 true w.heap.size w'.heap.size w' v' ys ∧ Bytes ys ∧ ys.length ≤ 500 ∧ Kept 0 0 w w' := by
  go_enter Try.func11, Try.ntmps11
  go_wp2_with fail
  refine (l1New_any _ r b).mono ?_
  rintro e w1 ⟨g, rfl, hg, c1, k1⟩
  have s1 := k1.size
  go_wp2_with fail
  refine (l1draw_any g w.heap.size _ c1).mono ?_
  rintro e w2 ⟨v2, ys, rfl, hown, hby, hlen, c2, k2⟩
  have hr := (Row.own hown).wider s1 (Nat.le_refl _)
  have bel := below_step k1.toBelow k2 (Nat.le_refl _) (.inl hg)
  clear hown
  go_wp2
  go_ret
  exact ⟨_, ys, rfl, hr, hby, hlen, Kept.pure bel⟩

theorem runesL_may' (zs : List Int) (hb : Bytes zs) : ∀ f p, ∀ x ∈ runesL zs f p, mayB x = true
  | 0, _, x, hx => by simp [runesL] at hx
  | f + 1, p, x, hx => by
    unfold runesL at hx
    split at hx
    · rcases List.mem_cons.1 hx with h | h
      · rw [h]; exact drune_may zs hb p
      · exact runesL_may' zs hb f _ x h
    · simp at hx
theorem runes_may' (zs : List Int) (hb : Bytes zs) : ∀ x ∈ runes zs, mayB x = true := by
  unfold runes
  split
  · intro x hx; simp at hx
  · exact runesL_may' zs hb _ _
theorem runesL_inv {zs : List Int} {f p : Nat} {x : Int} {t : List Int} (h : x :: t = runesL zs f p) : ∃ f', f = f' + 1 ∧ p < zs.length ∧ x = (drune zs p).1 ∧ t = runesL zs f' (p + (drune zs p).2.toNat) := by
  cases f with
  | zero => simp [runesL] at h
  | succ f =>
    by_cases hp : p < zs.length
    · rw [runesL_step zs f p hp] at h
      simp only [List.cons.injEq] at h
      exact ⟨f, rfl, hp, h.1, h.2⟩
    · rw [runesL_end zs _ p hp] at h; simp at h
theorem drop_getD (xs : List Int) (k : Nat) (h : k < xs.length) : xs.drop k = xs.getD k 0 :: xs.drop (k + 1) := by
  rw [List.drop_eq_getElem_cons h]; simp [List.getD, h]

set_option maxHeartbeats 4000000 in
theorem law_FnRunes {v : Value} {cs : List Int} {w : World} (r : Row .u8 false 0 w.heap.size w v cs) (hb0 : ∀ z ∈ cs, (Lit.int .u8 z).wf = true) :
    Calls Try.prog 3 #[v] w fun e w' => e = .returned (.bool true) ∧ Below w.heap.size w w' := by
  have hb := bytes_of_wf hb0
  clear hb0
  go_enter Try.func3, Try.ntmps3
  go_wp2_with fail
  refine (drawRunes_any _ r hb).mono ?_
  rintro e w1 ⟨v1, zs, rfl, r1, hby, hlen, k1⟩
  have s1 := k1.size
  clear hb r
  go_wp2_with fail
  refine (runes_impl _ r1 hby).mono ?_
  rintro e w2 ⟨v2, rfl, r2, k2⟩
  have s2 := k2.size
  replace r1 := r1.kept k2 (by omega)
  have bel := below_step k1.toBelow k2 (Nat.le_refl _) (by omega)
  obtain ⟨i0, hi0, hz0, hz1, hz2⟩ := info_parts Try.info5
  have rb1 := r1.read.tight
  obtain ⟨a1, c1, rfl, -, -, -⟩ := r1
  by_cases hbig : 400 < (zs.length : Int)
  · have hr0 : runes zs = [] := by unfold runes; rw [if_pos (by omega)]
    have hc0 : clean zs = false := by unfold clean; rw [if_pos (by omega)]
    rw [hr0] at r2
    obtain ⟨a2, c2, rfl, -, -, -⟩ := r2
    go_wp2_with fail
    refine (clean_impl _ rb1 hby).mono ?_
    rintro e w3 ⟨rfl, k3⟩
    rw [hc0]
    go_wp2_with fail
    refine (rb_impl 65 _).mono ?_
    rintro e w4 ⟨v4, rfl, r4, k4⟩
    rw [show rb 65 = [65] from by decide] at r4
    obtain ⟨a4, c4, rfl, -, -, -⟩ := r4
    have bel2 := below_step (below_step bel k3 (Nat.le_refl _) (by omega)) k4 (Nat.le_refl _) (by omega)
    clear bel k1 k2 hi0 hz0 hz1 hz2 rb1 hr0 hc0 k3 k4
    go_wp2
    go_ret
    exact ⟨rfl, bel2⟩
  · have hr0 : runes zs = runesL zs zs.length 0 := by unfold runes; rw [if_neg (by omega)]
    have hc0 : clean zs = cleanL zs zs.length 0 := by unfold clean; rw [if_neg (by omega)]
    have hfin : decide (rbs (runes zs) = zs) = clean zs := by
      have h := rbs_clean zs hby zs.length 0 (Nat.zero_le _) (by omega)
      rw [List.drop_zero, ← hr0, ← hc0] at h
      by_cases hc : clean zs = true
      · rw [hc, decide_eq_true (h.2 hc)]
      · have : clean zs = false := by simpa using hc
        rw [this, decide_eq_false (fun e => hc (h.1 e))]
    have hmay := runes_may' zs hby
    have hxl := runes_length zs
    have HF := hide hfin
    have HR := hide hr0
    generalize hxs : runes zs = xs at *
    have rl := r2.read.tight
    obtain ⟨a2, c2, rfl, -, -, -⟩ := r2
    clear hfin hr0 hc0 hxs k1 k2
    go_wp2
    go_loopw [5, 6, 7] (fun vv i kk wr => ∃ k p f : Nat, k ≤ xs.length ∧ p ≤ zs.length ∧ zs.length ≤ p + f ∧ i = .int .i64 p ∧ kk = .int .i64 k ∧ Hid (xs.drop k = runesL zs f p) ∧ wr.ownsRow w2.heap.size 5 1 vv (rbs (xs.take k)).length ((rbs (xs.take k)).map (Value.int .u8)) ∧ Below w2.heap.size w2 wr) (fun _ _ kk _ => xs.length - (intOf kk).toNat)
    case atStart => exact ⟨0, 0, zs.length, Nat.zero_le _, Nat.zero_le _, by omega, rfl, rfl, by show _ = _; rw [List.drop_zero]; exact unhide HR, World.ownsRow_nil _ _ _ _, Below.refl _ _⟩
    case round =>
      obtain ⟨k, p, f, hk, hp, hf, rfl, rfl, hdr, hown, hbel⟩ := hrel
      have rbk := rb1.kept (Kept.pure (B := 0) hbel) (by omega)
      by_cases hlt : k < xs.length
      · have hlt' : (k : Int) < (xs.length : Int) := by omega
        have rlk := rl.kept (Kept.pure (B := 0) hbel) (by omega)
        have hdr' := hdr.out
        rw [drop_getD xs k hlt] at hdr'
        obtain ⟨f', rfl, hpl, hx1, hx2⟩ := runesL_inv hdr'
        obtain ⟨wd1, wd2, wd3⟩ := drune_width zs p hpl
        have hm := drune_may zs hby p
        have htk := rbs_take xs k hlt
        have hl4 := rbs_length (xs.take k)
        have hlk : (xs.take k).length = k := by simp; omega
        have HTK := hide htk
        have HC := hide (runeAt_impl wr rbk hby (p : Int) (by omega))
        rw [arune_at zs p hpl] at HC
        obtain ⟨g2, o2, rfl, hcl⟩ := (row_cell rlk).2.2.2 k hlt
        rw [hx1] at hcl HTK
        generalize drune zs p = F at *
        obtain ⟨F1, F2⟩ := F
        obtain ⟨W, rfl⟩ := Int.eq_ofNat_of_zero_le (by omega : 0 ≤ F2)
        simp only [Int.toNat_natCast] at wd1 wd2 wd3 hm hcl hx2
        have HX2 := hide hx2
        have hrl := rb_length F1
        have hrp := rb_some hm
        generalize rbs (xs.take k) = old at *
        clear hdr hdr' hx1 hx2 htk rbk
        go_wp2_with fail
        refine (unhide HC).mono ?_
        rintro e w3 ⟨rfl, k3⟩
        replace rlk := rlk.kept k3 (by omega)
        replace hcl := (World.cell?_of_block (w := wr) (a := ⟨g2, o2 + k, none⟩) (k3.block g2 (World.block_lt_of_cell? wr _ hcl) (by omega))).trans hcl
        replace hown := own_kept hown k3
        replace hbel := below_step hbel k3 (Nat.le_refl _) (by omega)
        clear k3 rlk HC
        go_wp2_with fail
        refine (rb_impl F1 _).mono ?_
        rintro e w4 ⟨v4, rfl, r4, k4⟩
        obtain ⟨a4, c4, rfl, -, -, -⟩ := r4
        have hne : (((rb F1).length : Int) == 0) = false := beq_eq_false_iff_ne.2 (by omega)
        replace hown := own_kept hown k4
        replace hbel := below_step hbel k4 (Nat.le_refl _) (by omega)
        clear k4 hcl
        go_wp2_with fail
        refine (rb_impl F1 _).mono ?_
        rintro e w5 ⟨v5, rfl, r5, k5⟩
        obtain ⟨g5, o5, c5, rfl, -, -, hnews⟩ := r5.news (List.length_pos_iff.1 hrp)
        replace hown := own_kept hown k5
        replace hbel := below_step hbel k5 (Nat.le_refl _) (by omega)
        have HN := hide hnews
        clear hnews r5 k5
        go_wp2_with (at_builtin; refine wpList_append_own _ rfl _ _ 22 rfl w2.heap.size 5 i0 (.int .u8 0) 1 1 Try.underlying22 hi0 hz0 hz1 hz2 rfl (by decide) _ _ _ rfl hown ⟨g5, o5, none⟩ (rb F1).length c5 ((rb F1).map (Value.int .u8)) rfl (by simp) (unhide HN) (ints_one _ _) ?c3 ?c4 ?c5 ?_)
        case c3 => unfold maxLen; omega
        case c4 => omega
        case c5 => exact hbel.size
        intro v6 w6 hown6 hgrow _
        have hbel6 := hbel.grown hgrow hbel.size (fun j hj => (hown.lt j hj).1)
        have hown7 : w6.ownsRow w2.heap.size 5 1 v6 (rbs (xs.take (k + 1))).length ((rbs (xs.take (k + 1))).map (Value.int .u8)) := by
          rw [unhide HTK]; simpa using hown6
        clear hown6 hgrow hown hbel hi0 hz0 hz1 hz2 HN HTK hne rb1 rl
        go_wp2
        go_roundw
        case rel => exact ⟨k + 1, p + W, f', by omega, by omega, by omega, by go_num, by go_num, unhide HX2, hown7, hbel6⟩
        case measure => simp [intOf]; omega
      · have hlt' : ¬ (k : Int) < (xs.length : Int) := by omega
        have hk' : k = xs.length := by omega
        subst hk'
        have hdr' := hdr.out
        rw [List.drop_length] at hdr'
        have hpe : p = zs.length := by
          rcases Nat.lt_or_ge p zs.length with h | h
          · obtain ⟨f', rfl⟩ : ∃ f', f = f' + 1 := ⟨f - 1, by omega⟩
            rw [runesL_step zs f' p h] at hdr'
            cases hdr'
          · omega
        subst hpe
        rw [List.take_length] at hown
        have ro := Row.own hown
        have bel3 := bel.trans (hbel.mono (by omega))
        clear hdr hdr' hown hi0 hz0 hz1 hz2 rl
        go_wp2_with fail
        refine (sameBytes_any _ ro rbk (rbs_bytes xs) hby).mono ?_
        rintro e w7 ⟨rfl, rfl⟩
        go_wp2_with fail
        refine (clean_impl _ rbk hby).mono ?_
        rintro e w8 ⟨rfl, k8⟩
        have bel4 := below_step bel3 k8 (Nat.le_refl _) (by omega)
        rw [← unhide HF]
        generalize decide (rbs xs = zs) = bb
        clear bel bel3 k8 ro rbk rb1 hbel HF HR
        go_wp2
        go_ret
        exact ⟨by simp, bel4⟩

end Go.Proofs.Ytbcojphjohpmdaa
