/-
  The walk of the law FnPlains: it returns true at every code.
-/
import Derived.Test.YtckolgaalkohlaaDoorTxtN
import Derived.Test.YtckolgaalkohlaaDoorWr2
import Derived.Test.YtckolgaalkohlaaDoorDraw2
import Derived.Test.YtckolgaalkohlaaDoorDrawW
import Derived.Test.YtckolgaalkohlaaDoorLawN
import Derived.Test.YtckolgaalkohlaaDoorDig4
namespace Go.Proofs.YtckolgaalkohlaaDoor
open Go.RowKit
set_option linter.unusedVariables false
set_option maxRecDepth 8000
set_option linter.unusedSimpArgs false

theorem pr_digit {z : Int} (h : 48 ≤ z ∧ z ≤ 57) : pr z = z := by
  have hd : dig z = z - 48 := by
    unfold dig digs
    rw [if_pos (by omega)]
  unfold pr
  rw [hd, if_pos (by omega)]
  omega
/-- What a rune is written as: a digit, a sign, a blank, or itself, being none of these. -/
theorem pr_forms (r : Int) : (48 ≤ pr r ∧ pr r ≤ 57) ∨ pr r = 43 ∨ pr r = 45 ∨ pr r = 32 ∨ (pr r = r ∧ dig r < 0 ∧ sgn r = 0 ∧ blankB r = false) := by
  have hd := dig_range r
  unfold pr
  by_cases h1 : 0 ≤ dig r
  · rw [if_pos h1]; left; generalize dig r = d at *; omega
  rw [if_neg h1]
  by_cases h2 : 0 < sgn r
  · rw [if_pos h2]; exact .inr (.inl rfl)
  rw [if_neg h2]
  by_cases h3 : sgn r < 0
  · rw [if_pos h3]; exact .inr (.inr (.inl rfl))
  rw [if_neg h3]
  by_cases h4 : blankB r = true
  · rw [if_pos h4]; exact .inr (.inr (.inr (.inl rfl)))
  rw [if_neg h4]
  exact .inr (.inr (.inr (.inr ⟨rfl, by omega, by omega, by simpa using h4⟩)))
theorem pr_pr (r : Int) : pr (pr r) = pr r := by
  rcases pr_forms r with h | h | h | h | ⟨h, -⟩
  · exact pr_digit h
  · rw [h]; decide
  · rw [h]; decide
  · rw [h]; decide
  · rw [h, h]
theorem pr_loop (r : Int) : (0 ≤ dig (pr r) → pr r ≤ 57) ∧ (blankB (pr r) = true → pr r = 32) ∧ (sgn (pr r) ≠ 0 → pr r ≤ 45) := by
  rcases pr_forms r with h | h | h | h | ⟨h, h1, h2, h3⟩
  · have hd : dig (pr r) = pr r - 48 := by
      unfold dig digs
      rw [if_pos (by omega)]
    have hs := dig_sgn (r := pr r) (by omega)
    exact ⟨fun _ => h.2, (fun e => by rw [hs.2] at e; cases e), fun e => absurd hs.1 e⟩
  · rw [h]; decide
  · rw [h]; decide
  · rw [h]; decide
  · rw [h]
    exact ⟨fun e => by omega, (fun e => by rw [h3] at e; cases e), fun e => absurd h2 e⟩
theorem plainL_map (rs : List Int) : plainL (rs.map pr) = plainL rs := by
  induction rs with
  | nil => rfl
  | cons a t ih => rw [List.map_cons, plainL, plainL, pr_pr, ih]
theorem drop_plain {zs : List Int} : ∀ (t : List Int) (f p : Nat), (∀ x ∈ t, mayB x = true) → zs.drop p = plainL t → p ≤ zs.length → zs.length ≤ p + f → runesL zs f p = t.map pr
  | [], f, p, hm, hd, hp, hf => by
    have : ¬ p < zs.length := by
      intro h
      have e := congrArg List.length hd
      simp [plainL] at e
      omega
    rw [runesL_end zs f p this]; rfl
  | r :: t, f, p, hm, hd, hp, hf => by
    have hmr := pr_may (hm r (List.mem_cons_self ..))
    have h1 := rb_some hmr
    have hlen : (rb (pr r)).length + (plainL t).length = zs.length - p := by
      have e := congrArg List.length hd
      simp [plainL] at e
      omega
    have hp1 : p < zs.length := by omega
    have hat : ∀ j, j < (rb (pr r)).length → zs.getD (p + j) 0 = (rb (pr r)).getD j 0 := by
      intro j hj
      have e := congrArg (fun l : List Int => l.getD j 0) hd
      simp only [plainL] at e
      rw [show (zs.drop p).getD j 0 = zs.getD (p + j) 0 by simp [List.getD]] at e
      rw [e]
      simp [List.getD, List.getElem?_append_left hj]
    have hdr := drune_rb zs p (pr r) hmr (by omega) hat
    obtain ⟨f', rfl⟩ : ∃ f', f = f' + 1 := ⟨f - 1, by omega⟩
    rw [runesL_step zs f' p hp1, hdr]
    have hd2 : zs.drop (p + (rb (pr r)).length) = plainL t := by
      rw [← List.drop_drop, hd, plainL, List.drop_left]
    have ih := drop_plain t f' (p + (rb (pr r)).length) (fun x hx => hm x (List.mem_cons_of_mem _ hx)) hd2 (by omega) (by omega)
    rw [List.map_cons]
    show pr r :: runesL zs f' (p + ((rb (pr r)).length : Int).toNat) = _
    rw [Int.toNat_natCast, ih]
theorem runes_short {zs : List Int} (h : ¬ 400 < zs.length) : runes zs = runesL zs zs.length 0 := by unfold runes; rw [if_neg h]
theorem runes_pln {bs : List Int} (hb : Bytes bs) (hl : (pln bs).length ≤ 400) : runes (pln bs) = (runes bs).map pr := by
  have hm := runes_may bs hb
  unfold pln at *
  rw [runes_short (zs := plainL (runes bs)) (by omega)]
  exact drop_plain _ _ 0 hm (by simp) (Nat.zero_le _) (by omega)
theorem pln_pln {bs : List Int} (hb : Bytes bs) (hl : (pln bs).length ≤ 400) : pln (pln bs) = pln bs := by
  have e := runes_pln hb hl
  show plainL (runes (pln bs)) = _
  rw [e, plainL_map]
  rfl
theorem wr_plain {bs : List Int} (hb : Bytes bs) : ansWB (wrC (pln bs)) (wrX (pln bs)) = ansWB (wrC bs) (wrX bs) ∧ ansWS (wrC (pln bs)) (wrX (pln bs)) = ansWS (wrC bs) (wrX bs) ∧ ansWL (wrC (pln bs)) (wrX (pln bs)) = ansWL (wrC bs) (wrX bs) := by
  by_cases hl : (pln bs).length ≤ 400
  · have e := pln_pln hb hl
    have e1 : wrC (pln bs) = wrC bs := by unfold wrC; rw [e]
    have e2 : wrX (pln bs) = wrX bs := by unfold wrX; rw [e]
    rw [e1, e2]
    exact ⟨rfl, rfl, rfl⟩
  · have c1 : wrC bs = false := Bool.eq_false_iff.2 (fun e => hl (wr_len e))
    have c2 : wrC (pln bs) = false := by unfold wrC; rw [pln_long (by omega)]; rfl
    rw [ansWB_no c1, ansWS_no c1, ansWL_no c1, ansWB_no c2, ansWS_no c2, ansWL_no c2]
    exact ⟨rfl, rfl, rfl⟩
theorem sgt_mem' (s : Bool) (n : Nat) : ∀ z ∈ sgt s n, z = 45 ∨ 48 ≤ z ∧ z ≤ 57 := by
  intro z hz
  unfold sgt at hz
  cases s
  · exact .inr (decText_mem n z hz)
  · rcases List.mem_cons.1 hz with e | e
    · exact .inl e
    · exact .inr (decText_mem n z e)
theorem sgt_pos (s : Bool) (n : Nat) : 0 < (sgt s n).length := by
  unfold sgt
  have := List.length_pos_iff.2 (decText_some n)
  cases s
  · exact this
  · simp
theorem sgt_len {s : Bool} {zs : List Int} (hn : Nrm zs) (hl : zs.length ≤ 100) : (sgt s (val zs).toNat).length ≤ 1601 := by
  have := decText_len ((okB_iff zs).2 ⟨hl, hn⟩)
  unfold sgt
  cases s <;> simp <;> omega
theorem Kept.newR {lo hi : Nat} {a b c : World} (h : Kept 0 0 a b) (k : Kept lo hi b c) (hl : a.heap.size ≤ lo) : Kept 0 0 a c :=
  ⟨k.os.trans h.os, k.tape.trans h.tape, k.output.trans h.output, Nat.le_trans h.size k.size, fun q hq hn => (k.block q (Nat.lt_of_lt_of_le hq h.size) (by omega)).trans (h.block q hq (by omega))⟩
theorem getD_in {zs : List Int} {i : Nat} (h : i < zs.length) : zs.getD i 0 ∈ zs := by
  simp only [List.getD, List.getElem?_eq_getElem h, Option.getD_some]
  exact List.getElem_mem h

theorem sameBytes_same {b1 b2 : Bool} {l1 h1 l2 h2 : Nat} {v1 v2 : Value} {xs : List Int} (w : World) (r1 : Row .u8 b1 l1 h1 w v1 xs) (r2 : Row .u8 b2 l2 h2 w v2 xs) :
    Calls Tryd.prog 12 #[v1, v2] w fun e w' => e = .returned (.bool true) ∧ Kept 0 0 w w' := by
  have c1 := row_string (P := Tryd.prog) w 22 5 9 Tryd.underlying22 Tryd.underlying5 Tryd.underlying9 r1
  have c2 := row_string (P := Tryd.prog) w 22 5 9 Tryd.underlying22 Tryd.underlying5 Tryd.underlying9 r2
  go_enter Tryd.func12, Tryd.ntmps12
  go_wp2
  go_ret
  exact ⟨by simp, Kept.refl _ _ _⟩

set_option maxHeartbeats 1000000 in
theorem drawPlain_any {bw : Bool} {lo hi : Nat} {v : Value} {zs : List Int} (w : World) (r : Row .u8 bw lo hi w v zs) (b : Bytes zs) :
    Calls Tryd.prog 4 #[v] w fun e w' => ∃ v' ys, e = .returned v' ∧ Row .u8 true w.heap.size w'.heap.size w' v' ys ∧ Bytes ys ∧ ys.length ≤ 500 ∧ Kept 0 0 w w' := by
  go_enter Tryd.func4, Tryd.ntmps4
  go_wp2_with fail
  refine (l1New_any _ r b).mono ?_
  rintro e w1 ⟨g, rfl, hg, c1, k1⟩
  have s1 := k1.size
  go_wp2_with fail
  refine (l1draw_any g w.heap.size _ c1).mono ?_
  rintro e w2 ⟨v2, ys, rfl, hown, hby, hlen, c2, k2⟩
  have hr := (Row.own hown).wider s1 (Nat.le_refl _)
  have bel := below_step k1.toBelow k2 (Nat.le_refl _) (.inl hg)
  clear hown
  go_wp2
  go_ret
  exact ⟨_, ys, rfl, hr, hby, hlen, Kept.pure bel⟩

set_option maxHeartbeats 1000000 in
theorem sameWhole_any {b1 b2 : Bool} {l1 h1 l2 h2 : Nat} {v1 v2 : Value} {xs ys : List Int} (s1 s2 : Bool) (w : World) (r1 : Row .i64 b1 l1 h1 w v1 xs) (r2 : Row .i64 b2 l2 h2 w v2 ys) :
    Calls Tryd.prog 13 #[.agg #[.bool s1, v1], .agg #[.bool s2, v2]] w fun e w' => e = .returned (.bool (decide (s1 = s2) && sameL xs ys)) ∧ Kept 0 0 w w' := by
  have k0 : Kept 0 0 w ((w.alloc (.cells #[.bool s1, v1] 28)).alloc (.cells #[.bool s2, v2] 28)) := (((Kept.refl 0 0 w).alloc (.cells #[.bool s1, v1] 28)).alloc (.cells #[.bool s2, v2] 28))
  have p0 : ((w.alloc (.cells #[.bool s1, v1] 28)).alloc (.cells #[.bool s2, v2] 28)).cell? ⟨w.heap.size, 0, none⟩ = some (.bool s1) := old_cell _ (new_cell2 _ _ _ _ _ _ (by simp) rfl)
  have p1 : ((w.alloc (.cells #[.bool s1, v1] 28)).alloc (.cells #[.bool s2, v2] 28)).cell? ⟨w.heap.size, 1, none⟩ = some (v1) := old_cell _ (new_cell2 _ _ _ _ _ _ (by simp) rfl)
  have t0 : ((w.alloc (.cells #[.bool s1, v1] 28)).alloc (.cells #[.bool s2, v2] 28)).cell? ⟨w.heap.size + 1, 0, none⟩ = some (.bool s2) := new_cell2 _ _ _ _ _ _ (by simp) rfl
  have t1 : ((w.alloc (.cells #[.bool s1, v1] 28)).alloc (.cells #[.bool s2, v2] 28)).cell? ⟨w.heap.size + 1, 1, none⟩ = some (v2) := new_cell2 _ _ _ _ _ _ (by simp) rfl
  replace r1 := r1.kept k0 (by omega)
  replace r2 := r2.kept k0 (by omega)
  have s0 : ((w.alloc (.cells #[.bool s1, v1] 28)).alloc (.cells #[.bool s2, v2] 28)).heap.size = w.heap.size + 2 := by simp
  obtain ⟨a1, c1, hv⟩ := r1.form'
  subst hv
  obtain ⟨a2, c2, hv⟩ := r2.form'
  subst hv
  have K := hide (k0)
  clear k0
  have S0 := hide s0
  clear s0
  obtain ⟨BB, hBB⟩ : ∃ y, sameL xs ys = y := ⟨_, rfl⟩
  rw [hBB]
  have HBB := hide hBB
  clear hBB
  cases s1 <;> cases s2
  · go_enter Tryd.func13, Tryd.ntmps13
    go_wp2_with fail
    generalize ((w.alloc (.cells #[.bool false, .slice a1 xs.length c1] 28)).alloc (.cells #[.bool false, .slice a2 ys.length c2] 28)) = W at *
    have mk := sameNat_any W r1 r2
    rw [unhide HBB] at mk
    refine (mk).mono ?_
    rintro e w1 ⟨rfl, k1⟩
    replace r1 := r1.kept k1 (.inr (.inr (Nat.le_refl 0)))
    replace r2 := r2.kept k1 (.inr (.inr (Nat.le_refl 0)))
    replace p0 := k1.cell0 p0
    replace p1 := k1.cell0 p1
    replace t0 := k1.cell0 t0
    replace t1 := k1.cell0 t1
    replace K := hide ((unhide K).trans k1)
    have z2 := k1.size
    clear k1
    clear mk
    go_wp2_with fail
    go_ret
    exact ⟨by simp, unhide K⟩
  · go_enter Tryd.func13, Tryd.ntmps13
    go_wp2_with fail
    go_ret
    exact ⟨by simp, unhide K⟩
  · go_enter Tryd.func13, Tryd.ntmps13
    go_wp2_with fail
    go_ret
    exact ⟨by simp, unhide K⟩
  · go_enter Tryd.func13, Tryd.ntmps13
    go_wp2_with fail
    generalize ((w.alloc (.cells #[.bool true, .slice a1 xs.length c1] 28)).alloc (.cells #[.bool true, .slice a2 ys.length c2] 28)) = W at *
    have mk := sameNat_any W r1 r2
    rw [unhide HBB] at mk
    refine (mk).mono ?_
    rintro e w1 ⟨rfl, k1⟩
    replace r1 := r1.kept k1 (.inr (.inr (Nat.le_refl 0)))
    replace r2 := r2.kept k1 (.inr (.inr (Nat.le_refl 0)))
    replace p0 := k1.cell0 p0
    replace p1 := k1.cell0 p1
    replace t0 := k1.cell0 t0
    replace t1 := k1.cell0 t1
    replace K := hide ((unhide K).trans k1)
    have z2 := k1.size
    clear k1
    clear mk
    go_wp2_with fail
    go_ret
    exact ⟨by simp, unhide K⟩

theorem sameWhole_same {b1 b2 : Bool} {l1 h1 l2 h2 : Nat} {v1 v2 : Value} {xs : List Int} (s : Bool) (w : World) (r1 : Row .i64 b1 l1 h1 w v1 xs) (r2 : Row .i64 b2 l2 h2 w v2 xs) :
    Calls Tryd.prog 13 #[.agg #[.bool s, v1], .agg #[.bool s, v2]] w fun e w' => e = .returned (.bool true) ∧ Kept 0 0 w w' := by
  have mk := sameWhole_any s s w r1 r2
  rw [show (decide (s = s) && sameL xs xs) = true from by rw [decide_eq_true rfl, show sameL xs xs = true from decide_eq_true rfl]; rfl] at mk
  exact mk

set_option maxHeartbeats 8000000 in
theorem drawWR_any {bw : Bool} {lo hi : Nat} {v : Value} {bs : List Int} (w : World) (r : Row .u8 bw lo hi w v bs) (b : Bytes bs) :
    Calls Tryd.prog 6 #[v] w fun e w' => ∃ v' ys, e = .returned v' ∧ Row .u8 true w.heap.size w'.heap.size w' v' ys ∧ Bytes ys ∧ Kept 0 0 w w' := by
  obtain ⟨i0, hi0, hz0, hz1, hz2⟩ := info_parts Tryd.info5
  obtain ⟨a0, d0, rfl⟩ := Row.form' r
  go_enter Tryd.func6, Tryd.ntmps6
  go_wp2_with fail
  refine (l1New_any _ r b).mono ?_
  rintro e w1 ⟨g, rfl, hg, cu, k1⟩
  clear r
  obtain ⟨LO, hLO⟩ : ∃ y, w.heap.size = y := ⟨_, rfl⟩
  rw [hLO] at cu
  have HLO := hide hLO
  have hwg : w.heap.size ≤ g := hg
  clear hLO hg
  go_wp2_with fail
  refine (draw3_any g LO _ cu).mono ?_
  rintro e w2 ⟨v2, s2, ns, rfl, rn, hn, hl, d2⟩
  have K := hide (k1.newR d2.2 hwg)
  have hg1 : g < w1.heap.size := cu.1
  have hs2 := d2.2.size
  replace cu := d2.1
  clear k1 d2
  go_wp2_with fail
  have mt := l3text_spec s2 w2 rn hn.1 hl
  obtain ⟨TX, hTX⟩ : ∃ y, sgt s2 (val ns).toNat = y := ⟨_, rfl⟩
  have hmem : ∀ z ∈ TX, z = 45 ∨ 48 ≤ z ∧ z ≤ 57 := by rw [← hTX]; exact sgt_mem' _ _
  have hpos : 0 < TX.length := by rw [← hTX]; exact sgt_pos _ _
  have hlT : TX.length ≤ 1601 := by rw [← hTX]; exact sgt_len hn.1 hl
  rw [hTX] at mt
  clear hTX hn hl
  refine mt.mono ?_
  rintro e w3 ⟨v3, rfl, rt, k3⟩
  clear mt rn
  replace cu := cu.kept k3 (by omega)
  replace K := hide ((unhide K).trans k3)
  have hs3 := k3.size
  obtain ⟨B2, hB2⟩ : ∃ y, w2.heap.size = y := ⟨_, rfl⟩
  rw [hB2] at rt hs3 hs2
  have hgB : g < B2 := by omega
  clear k3 hB2
  obtain ⟨at3, c3, hv⟩ := Row.form' rt
  subst hv
  go_wp2_with fail
  have hr := Row.lit .i64 w3 3 [48, 48, 1632, 1776, 2406, 65296] (by simp [maxLen])
  have kA := (Kept.refl 0 0 w3).alloc (.cells ([48, 48, 1632, 1776, 2406, 65296].map (Value.int .i64)).toArray 3)
  refine (l1PickInt_any g LO _ (cu.kept kA (by omega)) hr (by simp) (by omega)).mono ?_
  rintro e w4 ⟨sh, rfl, hsh, dd⟩
  have hsh2 : sh = 48 ∨ sh = 1632 ∨ sh = 1776 ∨ sh = 2406 ∨ sh = 65296 := by
    simp only [List.mem_cons, List.not_mem_nil, or_false] at hsh
    omega
  replace rt := (rt.kept kA (by omega)).kept dd.2.1 (by omega)
  replace K := hide (((unhide K).trans kA).newR dd.2.1 hwg)
  replace cu := dd.1
  have hs4 : w3.heap.size + 1 = w4.heap.size := by rw [dd.2.2]; simp
  clear dd hr kA hsh
  have hg4 : g < w4.heap.size := cu.1
  have HAT := hide (row_cell rt).2.2.2
  have hmT := rt.len
  unfold maxLen at hmT
  have KW := hide (unhide K)
  have RT := hide rt
  clear K rt
  go_wp2_with fail
  go_loopw [6, 7] (fun bv ii wr => ∃ (i : Nat) (cs : List Int), i ≤ TX.length ∧ ii = .int .i64 i ∧ i ≤ cs.length ∧ Has w4.heap.size g LO w4 wr bv cs 10000 ∧ cs.length ≤ 4 * i) (fun _ ii _ => TX.length - (intOf ii).toNat)
  case atStart => exact ⟨0, [], Nat.zero_le _, rfl, Nat.le_refl _, ⟨World.ownsRow_nil _ _ _ _, (fun z hz => by simp at hz), by simp, cu, Kept.refl _ _ _⟩, by simp⟩
  case round =>
    clear cu
    obtain ⟨i, cs, hi, rfl, hic, ⟨hown, hby, hmost, cr, kr⟩, hl4⟩ := hrel
    obtain ⟨av, cv, hv⟩ := own_slice hown
    by_cases hlt : i < TX.length
    · have hlt' : (i : Int) < (TX.length : Int) := by omega
      obtain ⟨gt, ot, hvt, xt⟩ := unhide HAT i hlt
      cases hvt
      have hz := hmem _ (getD_in hlt)
      have xt2 : wr.cell? ⟨gt, ot + i, none⟩ = some (.int .u8 (TX.getD i 0)) := kr.cellOut (.inr (by have := (Row.at (unhide RT) (j := i) (by omega)).2.2.1; dsimp only; omega)) xt
      generalize TX.getD i 0 = z at *
      by_cases h45 : z = 45
      · subst h45
        subst hv
        go_wp2_with fail
        have hr := Row.lit .i64 wr 3 [45, 8722, 65293, 43] (by simp [maxLen])
        have kA := (Kept.refl 0 0 wr).alloc (.cells ([45, 8722, 65293, 43].map (Value.int .i64)).toArray 3)
        refine (l1PickInt_any g LO _ (cr.kept kA (by omega)) hr (by simp) (by have := kr.size; omega)).mono ?_
        rintro e w5 ⟨x, rfl, hx, dd⟩
        have hm : mayB x = true := by
          simp only [List.mem_cons, List.not_mem_nil, or_false] at hx
          rcases hx with h | h | h | h <;> subst h <;> decide
        have kr5 : Kept g (g + 1) w4 w5 := (kr.trans kA.any).trans dd.2.1
        have hown2 := own_other (own_kept hown kA) dd.2.1 hg4
        have c5' := dd.1
        clear dd hr kA hx hown cr kr
        go_wp2_with fail
        refine (rb_spec x _).mono ?_
        rintro e w6 ⟨v6, rfl, r3, k6⟩
        have hown3 := own_kept hown2 k6
        have kk : Kept g (g + 1) w4 w6 := kr5.trans k6.any
        have cc := c5'.kept k6 (by omega)
        clear hown2 kr5 c5' k6
        have hrl := rb_length x
        have hrb := rb_bytes x
        obtain ⟨g3, o3, c5, hv3, -, -, hnews⟩ := r3.news (List.length_pos_iff.1 (rb_some hm))
        subst hv3
        have hs5 : w4.heap.size ≤ w6.heap.size := kk.size
        have HN := hide hnews
        have c3' : cs.length + (rb x).length ≤ maxLen := by unfold maxLen; omega
        have c4' : (cs.length + (rb x).length) * 1 ≤ 140737488355328 := by omega
        have C3 := hide c3'
        have C4 := hide c4'
        clear hnews r3 c3' c4'
        go_wp2_with (at_builtin; refine wpList_append_own _ rfl _ _ 22 rfl w4.heap.size 5 i0 (.int .u8 0) 1 1 Tryd.underlying22 hi0 hz0 hz1 hz2 rfl (by decide) _ _ _ rfl hown3 ⟨g3, o3, none⟩ (rb x).length _ ((rb x).map (Value.int .u8)) rfl (by simp) (unhide HN) (ints_one _ _) (unhide C3) (unhide C4) hs5 ?_)
        intro v9 w9 hown4 hgrow _
        have kg : Kept w4.heap.size w6.heap.size w6 w9 := Kept.grown hgrow (fun j hj => hown3.lt j hj)
        have k9 : Kept g (g + 1) w4 w9 := ⟨kg.os.trans kk.os, kg.tape.trans kk.tape, kg.output.trans kk.output, Nat.le_trans kk.size kg.size, fun i hi ho => (kg.block i (Nat.lt_of_lt_of_le hi kk.size) (.inl hi)).trans (kk.block i hi ho)⟩
        have c9 := cc.kept kg (.inl hg4)
        have hown5 : w9.ownsRow w4.heap.size 5 1 v9 (cs ++ rb x).length ((cs ++ rb x).map (Value.int .u8)) := by simpa using hown4
        have hr1 := rb_some hm
        clear hown4 hgrow hown3 HN kg kk cc hi0 hz0 hz1 hz2
        go_wp2
        go_roundw
        case rel => exact ⟨i + 1, cs ++ rb x, by omega, by go_num, by simp; omega, ⟨hown5, hby.app hrb, by simp; omega, c9, k9⟩, by simp; omega⟩
        case measure => simp [intOf]; omega
      · have e45 : (z == 45) = false := beq_eq_false_iff_ne.2 h45
        have hzz : 48 ≤ z ∧ z ≤ 57 := hz.resolve_left h45
        have hw8 : IntKind.u8.wrap (z - 48) = z - 48 := by rw [IntKind.wrap_u8]; omega
        have hw6 : IntKind.i64.wrap (z - 48) = z - 48 := by rw [IntKind.wrap_i64]; omega
        have hw7 : IntKind.i64.wrap (sh + (z - 48)) = sh + (z - 48) := by rw [IntKind.wrap_i64]; omega
        have hm : mayB (sh + (z - 48)) = true := by unfold mayB; simp; omega
        subst hv
        clear hz h45
        go_wp2_with fail
        refine (rb_spec (sh + (z - 48)) _).mono ?_
        rintro e w6 ⟨v6, rfl, r3, k6⟩
        clear hw7
        generalize sh + (z - 48) = x at *
        have hown3 := own_kept hown k6
        have kk : Kept g (g + 1) w4 w6 := kr.trans k6.any
        have cc := cr.kept k6 (by omega)
        clear hown kr cr k6
        have hrl := rb_length x
        have hrb := rb_bytes x
        obtain ⟨g3, o3, c5, hv3, -, -, hnews⟩ := r3.news (List.length_pos_iff.1 (rb_some hm))
        subst hv3
        have hs5 : w4.heap.size ≤ w6.heap.size := kk.size
        have HN := hide hnews
        have c3' : cs.length + (rb x).length ≤ maxLen := by unfold maxLen; omega
        have c4' : (cs.length + (rb x).length) * 1 ≤ 140737488355328 := by omega
        have C3 := hide c3'
        have C4 := hide c4'
        clear hnews r3 c3' c4'
        go_wp2_with (at_builtin; refine wpList_append_own _ rfl _ _ 22 rfl w4.heap.size 5 i0 (.int .u8 0) 1 1 Tryd.underlying22 hi0 hz0 hz1 hz2 rfl (by decide) _ _ _ rfl hown3 ⟨g3, o3, none⟩ (rb x).length _ ((rb x).map (Value.int .u8)) rfl (by simp) (unhide HN) (ints_one _ _) (unhide C3) (unhide C4) hs5 ?_)
        intro v9 w9 hown4 hgrow _
        have kg : Kept w4.heap.size w6.heap.size w6 w9 := Kept.grown hgrow (fun j hj => hown3.lt j hj)
        have k9 : Kept g (g + 1) w4 w9 := ⟨kg.os.trans kk.os, kg.tape.trans kk.tape, kg.output.trans kk.output, Nat.le_trans kk.size kg.size, fun i hi ho => (kg.block i (Nat.lt_of_lt_of_le hi kk.size) (.inl hi)).trans (kk.block i hi ho)⟩
        have c9 := cc.kept kg (.inl hg4)
        have hown5 : w9.ownsRow w4.heap.size 5 1 v9 (cs ++ rb x).length ((cs ++ rb x).map (Value.int .u8)) := by simpa using hown4
        have hr1 := rb_some hm
        clear hown4 hgrow hown3 HN kg kk cc hi0 hz0 hz1 hz2
        go_wp2
        go_roundw
        case rel => exact ⟨i + 1, cs ++ rb x, by omega, by go_num, by simp; omega, ⟨hown5, hby.app hrb, by simp; omega, c9, k9⟩, by simp; omega⟩
        case measure => simp [intOf]; omega
    · have hlt' : ¬ (i : Int) < (TX.length : Int) := by omega
      have hcp : 0 < cs.length := by omega
      obtain ⟨gb, cb, hvb, hgb, hcb, hcm, hgl, -⟩ := own_form hown hcp
      rw [hvb] at hv
      cases hv
      subst hvb
      clear HAT RT
      go_wp2_with fail
      refine (l1Once_any g LO _ cr 4).mono ?_
      rintro e w5 ⟨b5, rfl, dd⟩
      have hown2 := own_other hown dd.2.1 hg4
      have kr5 := kr.trans dd.2.1
      have cr5 := dd.1
      clear hown kr cr dd
      cases b5
      · have RR := hide ((Row.own hown2).wider (lo' := w.heap.size) (by have := (unhide KW).size; omega) (Nat.le_refl _))
        have KK := hide ((unhide KW).newR kr5 hwg)
        clear hown2 kr5 cr5
        go_wp2_with fail
        go_ret
        first | exact ⟨_, _, rfl, unhide RR, hby, unhide KK⟩ | exact ⟨_, rfl, ⟨_, unhide RR, hby⟩, unhide KK⟩
      · go_wp2_with fail
        refine (l1draw_any g LO _ cr5).mono ?_
        rintro e w6 ⟨v6, ys, rfl, hown6, hby6, hm6, c6, k6⟩
        have hown3 := own_other hown2 k6 hg4
        have kk := kr5.trans k6
        obtain ⟨a6, d6, hv6⟩ := own_slice hown6
        subst hv6
        have hs5 : w4.heap.size ≤ w6.heap.size := kk.size
        by_cases hys : ys = []
        · subst hys
          have hrun := fun ty => run_append_zero (P := Tryd.prog) w6 22 ty 5 i0 Tryd.underlying22 hi0 ⟨gb, 0, none⟩ a6 cs.length _ d6 hcb
          have HRUN := hide hrun
          have RR := hide ((Row.own hown3).wider (lo' := w.heap.size) (by have := (unhide KW).size; omega) (Nat.le_refl _))
          have KK := hide ((unhide KW).newR kk hwg)
          clear hrun hown2 hown3 hown6 kk k6 kr5 cr5 c6
          go_wp2_with (at_builtin; refine Lib.wpList_append_run _ rfl _ _ _ _ rfl _ _ rfl rfl _ _ (unhide HRUN _) ?_)
          go_ret
          first | exact ⟨_, _, rfl, unhide RR, hby, unhide KK⟩ | exact ⟨_, rfl, ⟨_, unhide RR, hby⟩, unhide KK⟩
        · obtain ⟨g3, o3, c5, hv3, -, -, hnews⟩ := (Row.own hown6).news hys
          cases hv3
          have HN := hide hnews
          have c3' : cs.length + ys.length ≤ maxLen := by unfold maxLen; omega
          have c4' : (cs.length + ys.length) * 1 ≤ 140737488355328 := by omega
          have C3 := hide c3'
          have C4 := hide c4'
          have KK := hide ((unhide KW).newR kk hwg)
          clear hnews c3' c4' hown2 hown6 k6 kr5 cr5 c6 kk
          go_wp2_with (at_builtin; refine wpList_append_own _ rfl _ _ 22 rfl w4.heap.size 5 i0 (.int .u8 0) 1 1 Tryd.underlying22 hi0 hz0 hz1 hz2 rfl (by decide) _ _ _ rfl hown3 ⟨g3, o3, none⟩ ys.length _ (ys.map (Value.int .u8)) rfl (by simp) (unhide HN) (ints_one _ _) (unhide C3) (unhide C4) hs5 ?_)
          intro v9 w9 hown4 hgrow _
          have hown5 : w9.ownsRow w4.heap.size 5 1 v9 (cs ++ ys).length ((cs ++ ys).map (Value.int .u8)) := by simpa using hown4
          have RR := hide ((Row.own hown5).wider (lo' := w.heap.size) (by have := (unhide KW).size; omega) (Nat.le_refl _))
          have K9 := hide ((unhide KK).growNew hgrow (fun j hj => by have := (hown3.lt j hj).1; have := (unhide KW).size; omega))
          have HBY := hide (hby.app hby6)
          clear hown4 hgrow hown3 hown5 KK
          go_wp2
          go_ret
          first | exact ⟨_, _, rfl, unhide RR, unhide HBY, unhide K9⟩ | exact ⟨_, rfl, ⟨_, unhide RR, unhide HBY⟩, unhide K9⟩

end Go.Proofs.YtckolgaalkohlaaDoor
