/-
  Contracts of WholeRead, the model's and the program's.
-/
import Derived.Test.YthglchilgjcloaaDoorPlain
import Derived.Test.YthglchilgjcloaaDoorRdS
import Derived.Test.YthglchilgjcloaaDoorBE
import Derived.Test.YthglchilgjcloaaDoorBH
import Derived.Test.YthglchilgjcloaaDoorNat11
namespace Go.Proofs.YthglchilgjcloaaDoor
open Go.RowKit
set_option linter.unusedVariables false
set_option maxRecDepth 8000
set_option linter.unusedSimpArgs false

/-- A text in its plain form; its sign; what is behind the sign; is it a number; which. -/
def pln (bs : List Int) : List Int := plainL (runes bs)
def wrN (p : List Int) : Bool := decide (p.getD 0 0 = 45)
def wrD (p : List Int) : List Int := if p.getD 0 0 = 45 ∨ p.getD 0 0 = 43 then p.drop 1 else p
def wrC (bs : List Int) : Bool := isDig (wrD (pln bs))
def wrX (bs : List Int) : Int := wval (wrN (pln bs)) (limbs (digN (wrD (pln bs))))
theorem wrD_yes {p : List Int} (h : p.getD 0 0 = 45 ∨ p.getD 0 0 = 43) : wrD p = p.drop 1 := by unfold wrD; rw [if_pos h]
theorem wrD_no {p : List Int} (h : ¬ (p.getD 0 0 = 45 ∨ p.getD 0 0 = 43)) : wrD p = p := by unfold wrD; rw [if_neg h]
theorem isDig_mem {ds : List Int} (h : isDig ds = true) : ∀ z ∈ ds, 48 ≤ z ∧ z ≤ 57 := by
  unfold isDig at h
  simp only [Bool.and_eq_true, List.all_eq_true, decide_eq_true_eq] at h
  exact h.2
theorem rb_low {x : Int} (h : ∀ z ∈ rb x, z < 128) : (rb x).length ≤ 1 := by
  unfold rb at *
  by_cases hm : mayB x = false
  · rw [if_pos hm]; simp
  · rw [if_neg hm] at *
    by_cases h1 : x < 128
    · rw [if_pos h1]; simp
    · rw [if_neg h1] at *
      exfalso
      split at h
      · have := h _ (List.mem_cons_self ..); omega
      · split at h
        · have := h _ (List.mem_cons_self ..); omega
        · have := h _ (List.mem_cons_self ..); omega
theorem plainL_low {rs : List Int} (h : ∀ z ∈ plainL rs, z < 128) : (plainL rs).length ≤ rs.length := by
  induction rs with
  | nil => simp [plainL]
  | cons r t ih =>
    simp only [plainL, List.mem_append] at h
    have h1 := rb_low (x := pr r) (fun z hz => h z (.inl hz))
    have h2 := ih (fun z hz => h z (.inr hz))
    simp [plainL]
    omega
theorem wr_len {bs : List Int} (h : wrC bs = true) : (pln bs).length ≤ 400 := by
  unfold wrC at h
  have hm := isDig_mem h
  have hl : ∀ z ∈ pln bs, z < 128 := by
    intro z hz
    by_cases hs : (pln bs).getD 0 0 = 45 ∨ (pln bs).getD 0 0 = 43
    · rw [wrD_yes hs] at hm
      cases hp : pln bs with
      | nil => rw [hp] at hz; cases hz
      | cons a t =>
        rw [hp] at hz hs hm
        simp at hs hm
        rcases List.mem_cons.1 hz with e | e
        · omega
        · have := hm z e; omega
    · rw [wrD_no hs] at hm
      have := hm z hz; omega
  have h1 := plainL_low (rs := runes bs) hl
  have h2 := runes_length bs
  unfold pln
  omega
theorem pln_long {bs : List Int} (h : 400 < bs.length) : pln bs = [] := by unfold pln runes; rw [if_pos h]; rfl
theorem pln_bytes {bs : List Int} : ∀ i, i < (pln bs).length → True := fun _ _ => trivial
theorem wr_ans (b : Bool) (n : Nat) : ansWB true (wval b (limbs n)) = decide ((limbs n).length ≤ 100) ∧ ansWS true (wval b (limbs n)) = (decide ((limbs n).length ≤ 100) && (b && decide (0 < (limbs n).length))) ∧ ansWL true (wval b (limbs n)) = tell (limbs n) := by
  have e : wlm (wval b (limbs n)) = limbs n := by rw [wlm_wval b (limbs_lim n), limbs_val, Int.toNat_natCast]
  have e1 : ansWB true (wval b (limbs n)) = decide ((limbs n).length ≤ 100) := by rw [ansWB_yes rfl, e]
  refine ⟨e1, by unfold ansWS; rw [e1, wsg_wval], ?_⟩
  unfold ansWL
  rw [e1, e]
  unfold tell
  by_cases h : (limbs n).length ≤ 100
  · rw [decide_eq_true h, if_pos rfl, if_pos h]
  · rw [decide_eq_false h, if_neg (by decide), if_neg h]
theorem dig_short {ds : List Int} (h : isDig ds = true) : (limbs (digN ds)).length ≤ ds.length := by
  have := digN_len ds (fun i hi => isDig_at h i hi) ds.length (Nat.le_refl _)
  rwa [List.take_of_length_le (Nat.le_refl _)] at this
theorem wrD_len (p : List Int) : (wrD p).length ≤ p.length := by
  unfold wrD
  split
  · simp
  · exact Nat.le_refl _
theorem sgn_byte {z : Int} (h1 : z < 256) : sgn z = if z = 43 then 1 else if z = 45 then -1 else 0 := by
  unfold sgn
  repeat' split
  all_goals first | rfl | omega

set_option maxHeartbeats 8000000 in
theorem wRead_spec {bw : Bool} {lo hi : Nat} {v : Value} {bs : List Int} (w : World) (r : Row .u8 bw lo hi w v bs) (hb : Bytes bs) :
    Calls Tryd.prog 5 #[v] w fun e w' => ∃ v', e = .returned (.tuple #[.agg #[.bool (ansWS (wrC bs) (wrX bs)), v'], .bool (ansWB (wrC bs) (wrX bs))]) ∧ Row .i64 true w.heap.size w'.heap.size w' v' (ansWL (wrC bs) (wrX bs)) ∧ Kept 0 0 w w' := by
  have HB := hide hb
  clear hb
  have k0 : Kept 0 0 w (w.alloc (.cells #[.bool false, .slice none 0 0] 27)) := ((Kept.refl 0 0 w).alloc (.cells #[.bool false, .slice none 0 0] 27))
  have q0 : (w.alloc (.cells #[.bool false, .slice none 0 0] 27)).cell? ⟨w.heap.size, 0, none⟩ = some (.bool false) := new_cell2 _ _ _ _ _ _ (by simp) rfl
  have qf0 : (w.alloc (.cells #[.bool false, .slice none 0 0] 27)).frozen? ⟨w.heap.size, 0, none⟩ = false := new_loose2 _ _ _ _ _ (by simp)
  have q1 : (w.alloc (.cells #[.bool false, .slice none 0 0] 27)).cell? ⟨w.heap.size, 1, none⟩ = some (.slice none 0 0) := new_cell2 _ _ _ _ _ _ (by simp) rfl
  have qf1 : (w.alloc (.cells #[.bool false, .slice none 0 0] 27)).frozen? ⟨w.heap.size, 1, none⟩ = false := new_loose2 _ _ _ _ _ (by simp)
  replace r := r.kept k0 (by omega)
  have s0 : (w.alloc (.cells #[.bool false, .slice none 0 0] 27)).heap.size = w.heap.size + 1 := by simp
  obtain ⟨a0, c0, hv⟩ := r.form'
  subst hv
  have K := hide (k0)
  clear k0
  have S0 := hide s0
  clear s0
  have hm := r.len
  unfold maxLen at hm
  obtain ⟨AB, hAB⟩ : ∃ y, ansWB (wrC bs) (wrX bs) = y := ⟨_, rfl⟩
  obtain ⟨AS, hAS⟩ : ∃ y, ansWS (wrC bs) (wrX bs) = y := ⟨_, rfl⟩
  obtain ⟨AL, hAL⟩ : ∃ y, ansWL (wrC bs) (wrX bs) = y := ⟨_, rfl⟩
  rw [hAB, hAS, hAL]
  have HA := hide (And.intro hAB (And.intro hAS hAL))
  clear hAB hAS hAL
  by_cases hlen : 400 < bs.length
  · have hlen' : (400 : Int) < (bs.length : Int) := by omega
    go_enter Tryd.func5, Tryd.ntmps5
    go_wp2_with fail
    generalize (w.alloc (.cells #[.bool false, .slice none 0 0] 27)) = W at *
    have hc : wrC bs = false := by unfold wrC; rw [pln_long hlen]; rfl
    have e1 : AB = false := by rw [← (unhide HA).1]; exact ansWB_no hc
    have e2 : AS = false := by rw [← (unhide HA).2.1]; exact ansWS_no hc
    have e3 : AL = [] := by rw [← (unhide HA).2.2]; exact ansWL_no hc
    subst e1 e2 e3
    exact bodyPost_ret (v := .tuple #[.agg #[.bool false, .slice none 0 0], .bool false]) (by simp [results, Tryd.results5, go_sem, q0, q1]) rfl ⟨_, rfl, Row.nil _ _ _ _ _, unhide K⟩
  have hlen' : ¬ (400 : Int) < (bs.length : Int) := by omega
  go_enter Tryd.func5, Tryd.ntmps5
  go_wp2_with fail
  generalize (w.alloc (.cells #[.bool false, .slice none 0 0] 27)) = W at *
  have mk := plain_spec W r (unhide HB) (by omega)
  obtain ⟨P, hP⟩ : ∃ y, pln bs = y := ⟨_, rfl⟩
  rw [show plainL (runes bs) = P from hP] at mk
  have HP := hide hP
  clear hP
  refine (mk).mono ?_
  rintro e w1 ⟨vp, rfl, rp, k1⟩
  replace r := r.kept k1 (.inr (.inr (Nat.le_refl 0)))
  replace qf0 := k1.loose0 (World.block_lt_of_cell? _ _ q0) qf0
  replace qf1 := k1.loose0 (World.block_lt_of_cell? _ _ q1) qf1
  replace q0 := k1.cell0 q0
  replace q1 := k1.cell0 q1
  replace K := hide ((unhide K).trans k1)
  have z2 := k1.size
  clear k1
  clear mk
  clear r
  obtain ⟨ap, cp, hv⟩ := Row.form' rp
  subst hv
  have hmp := rp.len
  unfold maxLen at hmp
  by_cases hz : P.length = 0
  · have hp0 : P = [] := List.length_eq_zero_iff.1 hz
    subst hp0
    clear hz
    go_wp2_with fail
    have mo := isDigits_spec w1 rp
    refine mo.mono ?_
    rintro e w9 ⟨rfl, hw9⟩
    subst hw9
    clear mo
    rw [show isDig [] = false from isDig_nil rfl]
    have hc : wrC bs = false := by unfold wrC; rw [unhide HP, show wrD [] = [] from rfl]; rfl
    have e1 : AB = false := by rw [← (unhide HA).1]; exact ansWB_no hc
    have e2 : AS = false := by rw [← (unhide HA).2.1]; exact ansWS_no hc
    have e3 : AL = [] := by rw [← (unhide HA).2.2]; exact ansWL_no hc
    subst e1 e2 e3
    clear hc
    have R := hide (Row.nil .i64 true w.heap.size ((w9.setCell ⟨w.heap.size, 0, none⟩ (.bool false)).setCell ⟨w.heap.size, 1, none⟩ (.slice none 0 0)).heap.size ((w9.setCell ⟨w.heap.size, 0, none⟩ (.bool false)).setCell ⟨w.heap.size, 1, none⟩ (.slice none 0 0)))
    have K7 := hide (((unhide K).setNew (p := ⟨w.heap.size, 0, none⟩) (by simp) (.bool false)).setNew (p := ⟨w.heap.size, 1, none⟩) (by simp) (.slice none 0 0))
    clear rp K
    go_wp2_with fail
    exact bodyPost_ret (v := .tuple #[.agg #[.bool false, .slice none 0 0], .bool false]) (by simp [results, Tryd.results5, go_sem, q0, q1]) rfl ⟨_, rfl, unhide R, unhide K7⟩
  have hpos : 0 < P.length := by omega
  have hpos' : (0 : Int) < (P.length : Int) := by omega
  obtain ⟨g0, o0, hx, x0⟩ := (row_cell rp).2.2.2 0 hpos
  cases hx
  rw [Nat.add_zero] at x0
  have RP := rp
  clear RP
  have HL := rp
  clear HL
  by_cases h45 : P.getD 0 0 = 45
  · have HN : Hid (wrN P = true) := by show _ = _; unfold wrN; exact decide_eq_true h45
    have HD : Hid (wrD P = P.drop 1) := wrD_yes (.inl h45)
    rw [h45] at x0
    by_cases hone : P.length = 1
    · have HD0 : Hid (P.drop 1 = []) := List.drop_of_length_le (by omega)
      have hcap : P.length ≤ cp := (row_cell rp).2.1
      have hcapm : cp ≤ 9223372036854775807 := by have := (row_cell rp).2.2.1; unfold maxLen at this; omega
      have hp1 : (1 : Int) ≤ (P.length : Int) := by omega
      have HN0 : Hid (P.length - 1 = 0) := by show _ = _; omega
      clear hone h45
      by_cases hcp : cp = 1
      · subst hcp
        go_wp2_with fail
        try rw [unhide HN0]
        refine (isDigits_spec (bs := []) w1 (Row.empty .u8 true 0 0 _ _ _ (by simp [maxLen]))).mono ?_
        rintro e w9 ⟨rfl, hw9⟩
        subst hw9
        rw [show isDig [] = false from isDig_nil rfl]
        have hc : wrC bs = false := by unfold wrC; rw [unhide HP, unhide HD, unhide HD0]; rfl
        have e1 : AB = false := by rw [← (unhide HA).1]; exact ansWB_no hc
        have e2 : AS = false := by rw [← (unhide HA).2.1]; exact ansWS_no hc
        have e3 : AL = [] := by rw [← (unhide HA).2.2]; exact ansWL_no hc
        subst e1 e2 e3
        clear hc
        have R := hide (Row.nil .i64 true w.heap.size ((w9.setCell ⟨w.heap.size, 0, none⟩ (.bool false)).setCell ⟨w.heap.size, 1, none⟩ (.slice none 0 0)).heap.size ((w9.setCell ⟨w.heap.size, 0, none⟩ (.bool false)).setCell ⟨w.heap.size, 1, none⟩ (.slice none 0 0)))
        have K7 := hide (((unhide K).setNew (p := ⟨w.heap.size, 0, none⟩) (by simp) (.bool false)).setNew (p := ⟨w.heap.size, 1, none⟩) (by simp) (.slice none 0 0))
        clear rp K
        go_wp2_with fail
        exact bodyPost_ret (v := .tuple #[.agg #[.bool false, .slice none 0 0], .bool false]) (by simp [results, Tryd.results5, go_sem, q0, q1]) rfl ⟨_, rfl, unhide R, unhide K7⟩
      go_wp2_with fail
      try rw [unhide HN0]
      refine (isDigits_spec (bs := []) w1 (Row.empty .u8 true 0 0 _ _ _ (by unfold maxLen; omega))).mono ?_
      rintro e w9 ⟨rfl, hw9⟩
      subst hw9
      rw [show isDig [] = false from isDig_nil rfl]
      have hc : wrC bs = false := by unfold wrC; rw [unhide HP, unhide HD, unhide HD0]; rfl
      have e1 : AB = false := by rw [← (unhide HA).1]; exact ansWB_no hc
      have e2 : AS = false := by rw [← (unhide HA).2.1]; exact ansWS_no hc
      have e3 : AL = [] := by rw [← (unhide HA).2.2]; exact ansWL_no hc
      subst e1 e2 e3
      clear hc
      have R := hide (Row.nil .i64 true w.heap.size ((w9.setCell ⟨w.heap.size, 0, none⟩ (.bool false)).setCell ⟨w.heap.size, 1, none⟩ (.slice none 0 0)).heap.size ((w9.setCell ⟨w.heap.size, 0, none⟩ (.bool false)).setCell ⟨w.heap.size, 1, none⟩ (.slice none 0 0)))
      have K7 := hide (((unhide K).setNew (p := ⟨w.heap.size, 0, none⟩) (by simp) (.bool false)).setNew (p := ⟨w.heap.size, 1, none⟩) (by simp) (.slice none 0 0))
      clear rp K
      go_wp2_with fail
      exact bodyPost_ret (v := .tuple #[.agg #[.bool false, .slice none 0 0], .bool false]) (by simp [results, Tryd.results5, go_sem, q0, q1]) rfl ⟨_, rfl, unhide R, unhide K7⟩
    have rd := rp.drop 1 (by omega)
    obtain ⟨D, hDD⟩ : ∃ y, P.drop 1 = y := ⟨_, rfl⟩
    rw [hDD] at rd HD
    clear hDD
    have hcap : P.length ≤ cp := (row_cell rp).2.1
    have hcapm : cp ≤ 9223372036854775807 := by have := (row_cell rp).2.2.1; unfold maxLen at this; omega
    have hp1 : (1 : Int) ≤ (P.length : Int) := by omega
    have hcp : ¬ cp = 1 := by omega
    clear hone h45
    go_wp2_with fail
    have mo := isDigits_spec w1 rd
    refine mo.mono ?_
    rintro e w9 ⟨rfl, hw9⟩
    subst hw9
    clear mo
    cases hdg : isDig D
    · have hc : wrC bs = false := by unfold wrC; rw [unhide HP, unhide HD]; exact hdg
      have e1 : AB = false := by rw [← (unhide HA).1]; exact ansWB_no hc
      have e2 : AS = false := by rw [← (unhide HA).2.1]; exact ansWS_no hc
      have e3 : AL = [] := by rw [← (unhide HA).2.2]; exact ansWL_no hc
      subst e1 e2 e3
      clear hc hdg
      have R := hide (Row.nil .i64 true w.heap.size ((w9.setCell ⟨w.heap.size, 0, none⟩ (.bool false)).setCell ⟨w.heap.size, 1, none⟩ (.slice none 0 0)).heap.size ((w9.setCell ⟨w.heap.size, 0, none⟩ (.bool false)).setCell ⟨w.heap.size, 1, none⟩ (.slice none 0 0)))
      have K7 := hide (((unhide K).setNew (p := ⟨w.heap.size, 0, none⟩) (by simp) (.bool false)).setNew (p := ⟨w.heap.size, 1, none⟩) (by simp) (.slice none 0 0))
      clear rp rd K
      go_wp2_with fail
      exact bodyPost_ret (v := .tuple #[.agg #[.bool false, .slice none 0 0], .bool false]) (by simp [results, Tryd.results5, go_sem, q0, q1]) rfl ⟨_, rfl, unhide R, unhide K7⟩
    have hc : wrC bs = true := by unfold wrC; rw [unhide HP, unhide HD]; exact hdg
    have hX : wrX bs = wval true (limbs (digN D)) := by unfold wrX; rw [unhide HP, unhide HD, unhide HN]
    have hl4 : D.length ≤ 400 := by
      have h1 := wr_len hc
      have h2 := wrD_len (pln bs)
      rw [unhide HP, unhide HD] at h2
      rw [unhide HP] at h1
      omega
    have hl5 := dig_short hdg
    have HDG := hide hdg
    have HC := hide hc
    have HX := hide hX
    clear hdg hc hX
    go_wp2_with fail
    have mo := digits_spec w9 rd (unhide HDG) hl4
    refine (mo).mono ?_
    rintro e w3 ⟨v2, rfl, r2, k3⟩
    replace rp := rp.kept k3 (.inr (.inr (Nat.le_refl 0)))
    replace rd := rd.kept k3 (.inr (.inr (Nat.le_refl 0)))
    replace qf0 := k3.loose0 (World.block_lt_of_cell? _ _ q0) qf0
    replace qf1 := k3.loose0 (World.block_lt_of_cell? _ _ q1) qf1
    replace q0 := k3.cell0 q0
    replace q1 := k3.cell0 q1
    replace x0 := k3.cell0 x0
    replace K := hide ((unhide K).trans k3)
    have z4 := k3.size
    clear k3
    clear mo
    go_wp2_with fail
    have mo := make_any true w3 r2 (limbs_nrm _) (by omega)
    rw [← unhide HX] at mo
    refine (mo).mono ?_
    rintro e w5 ⟨v3, rfl, r3, k5⟩
    replace rp := rp.kept k5 (.inr (.inr (Nat.le_refl 0)))
    replace rd := rd.kept k5 (.inr (.inr (Nat.le_refl 0)))
    replace r2 := r2.kept k5 (.inr (.inr (Nat.le_refl 0)))
    replace qf0 := k5.loose0 (World.block_lt_of_cell? _ _ q0) qf0
    replace qf1 := k5.loose0 (World.block_lt_of_cell? _ _ q1) qf1
    replace q0 := k5.cell0 q0
    replace q1 := k5.cell0 q1
    replace x0 := k5.cell0 x0
    replace K := hide ((unhide K).trans k5)
    have z6 := k5.size
    clear k5
    clear mo
    go_wp2_with fail
    have mo := fits3_spec (wsg (wrX bs)) w5 r3
    refine (mo).mono ?_
    rintro e w7 ⟨rfl, k7⟩
    replace rp := rp.kept k7 (.inr (.inr (Nat.le_refl 0)))
    replace rd := rd.kept k7 (.inr (.inr (Nat.le_refl 0)))
    replace r2 := r2.kept k7 (.inr (.inr (Nat.le_refl 0)))
    replace r3 := r3.kept k7 (.inr (.inr (Nat.le_refl 0)))
    replace qf0 := k7.loose0 (World.block_lt_of_cell? _ _ q0) qf0
    replace qf1 := k7.loose0 (World.block_lt_of_cell? _ _ q1) qf1
    replace q0 := k7.cell0 q0
    replace q1 := k7.cell0 q1
    replace x0 := k7.cell0 x0
    replace K := hide ((unhide K).trans k7)
    have z8 := k7.size
    clear k7
    clear mo
    obtain ⟨v7, hv7, h1, h2, R7⟩ := ansW_told (unhide HC) r3
    rw [hv7, h1, h2]
    clear hv7 h1 h2
    rw [(unhide HA).1, (unhide HA).2.1]
    rw [(unhide HA).2.2] at R7
    obtain ⟨a7, c7, hv⟩ := Row.form' R7
    subst hv
    have bX : w.heap.size < w7.heap.size := World.block_lt_of_cell? _ _ q0
    have R := hide (((R7.set_other (p := ⟨w.heap.size, 0, none⟩) (.inl (by have := unhide S0; dsimp only; omega)) (.bool AS)).set_other (p := ⟨w.heap.size, 1, none⟩) (.inl (by have := unhide S0; dsimp only; omega)) (.slice a7 AL.length c7)).tight.wider (lo' := w.heap.size) (by have := unhide S0; omega) (Nat.le_refl _))
    have K7 := hide (((unhide K).setNew (p := ⟨w.heap.size, 0, none⟩) (by simp) (.bool AS)).setNew (p := ⟨w.heap.size, 1, none⟩) (by simp) (.slice a7 AL.length c7))
    clear rp rd r2 r3 R7 K
    go_wp2_with fail
    exact bodyPost_ret (v := .tuple #[.agg #[.bool AS, .slice a7 AL.length c7], .bool AB]) (by simp [results, Tryd.results5, go_sem, q0, q1]) rfl ⟨_, rfl, unhide R, unhide K7⟩
  by_cases h43 : P.getD 0 0 = 43
  · have HN : Hid (wrN P = false) := by show _ = _; unfold wrN; exact decide_eq_false h45
    have HD : Hid (wrD P = P.drop 1) := wrD_yes (.inr h43)
    rw [h43] at x0
    by_cases hone : P.length = 1
    · have HD0 : Hid (P.drop 1 = []) := List.drop_of_length_le (by omega)
      have hcap : P.length ≤ cp := (row_cell rp).2.1
      have hcapm : cp ≤ 9223372036854775807 := by have := (row_cell rp).2.2.1; unfold maxLen at this; omega
      have hp1 : (1 : Int) ≤ (P.length : Int) := by omega
      have HN0 : Hid (P.length - 1 = 0) := by show _ = _; omega
      clear hone h43 h45
      by_cases hcp : cp = 1
      · subst hcp
        go_wp2_with fail
        try rw [unhide HN0]
        refine (isDigits_spec (bs := []) w1 (Row.empty .u8 true 0 0 _ _ _ (by simp [maxLen]))).mono ?_
        rintro e w9 ⟨rfl, hw9⟩
        subst hw9
        rw [show isDig [] = false from isDig_nil rfl]
        have hc : wrC bs = false := by unfold wrC; rw [unhide HP, unhide HD, unhide HD0]; rfl
        have e1 : AB = false := by rw [← (unhide HA).1]; exact ansWB_no hc
        have e2 : AS = false := by rw [← (unhide HA).2.1]; exact ansWS_no hc
        have e3 : AL = [] := by rw [← (unhide HA).2.2]; exact ansWL_no hc
        subst e1 e2 e3
        clear hc
        have R := hide (Row.nil .i64 true w.heap.size ((w9.setCell ⟨w.heap.size, 0, none⟩ (.bool false)).setCell ⟨w.heap.size, 1, none⟩ (.slice none 0 0)).heap.size ((w9.setCell ⟨w.heap.size, 0, none⟩ (.bool false)).setCell ⟨w.heap.size, 1, none⟩ (.slice none 0 0)))
        have K7 := hide (((unhide K).setNew (p := ⟨w.heap.size, 0, none⟩) (by simp) (.bool false)).setNew (p := ⟨w.heap.size, 1, none⟩) (by simp) (.slice none 0 0))
        clear rp K
        go_wp2_with fail
        exact bodyPost_ret (v := .tuple #[.agg #[.bool false, .slice none 0 0], .bool false]) (by simp [results, Tryd.results5, go_sem, q0, q1]) rfl ⟨_, rfl, unhide R, unhide K7⟩
      go_wp2_with fail
      try rw [unhide HN0]
      refine (isDigits_spec (bs := []) w1 (Row.empty .u8 true 0 0 _ _ _ (by unfold maxLen; omega))).mono ?_
      rintro e w9 ⟨rfl, hw9⟩
      subst hw9
      rw [show isDig [] = false from isDig_nil rfl]
      have hc : wrC bs = false := by unfold wrC; rw [unhide HP, unhide HD, unhide HD0]; rfl
      have e1 : AB = false := by rw [← (unhide HA).1]; exact ansWB_no hc
      have e2 : AS = false := by rw [← (unhide HA).2.1]; exact ansWS_no hc
      have e3 : AL = [] := by rw [← (unhide HA).2.2]; exact ansWL_no hc
      subst e1 e2 e3
      clear hc
      have R := hide (Row.nil .i64 true w.heap.size ((w9.setCell ⟨w.heap.size, 0, none⟩ (.bool false)).setCell ⟨w.heap.size, 1, none⟩ (.slice none 0 0)).heap.size ((w9.setCell ⟨w.heap.size, 0, none⟩ (.bool false)).setCell ⟨w.heap.size, 1, none⟩ (.slice none 0 0)))
      have K7 := hide (((unhide K).setNew (p := ⟨w.heap.size, 0, none⟩) (by simp) (.bool false)).setNew (p := ⟨w.heap.size, 1, none⟩) (by simp) (.slice none 0 0))
      clear rp K
      go_wp2_with fail
      exact bodyPost_ret (v := .tuple #[.agg #[.bool false, .slice none 0 0], .bool false]) (by simp [results, Tryd.results5, go_sem, q0, q1]) rfl ⟨_, rfl, unhide R, unhide K7⟩
    have rd := rp.drop 1 (by omega)
    obtain ⟨D, hDD⟩ : ∃ y, P.drop 1 = y := ⟨_, rfl⟩
    rw [hDD] at rd HD
    clear hDD
    have hcap : P.length ≤ cp := (row_cell rp).2.1
    have hcapm : cp ≤ 9223372036854775807 := by have := (row_cell rp).2.2.1; unfold maxLen at this; omega
    have hp1 : (1 : Int) ≤ (P.length : Int) := by omega
    have hcp : ¬ cp = 1 := by omega
    clear hone h43 h45
    go_wp2_with fail
    have mo := isDigits_spec w1 rd
    refine mo.mono ?_
    rintro e w9 ⟨rfl, hw9⟩
    subst hw9
    clear mo
    cases hdg : isDig D
    · have hc : wrC bs = false := by unfold wrC; rw [unhide HP, unhide HD]; exact hdg
      have e1 : AB = false := by rw [← (unhide HA).1]; exact ansWB_no hc
      have e2 : AS = false := by rw [← (unhide HA).2.1]; exact ansWS_no hc
      have e3 : AL = [] := by rw [← (unhide HA).2.2]; exact ansWL_no hc
      subst e1 e2 e3
      clear hc hdg
      have R := hide (Row.nil .i64 true w.heap.size ((w9.setCell ⟨w.heap.size, 0, none⟩ (.bool false)).setCell ⟨w.heap.size, 1, none⟩ (.slice none 0 0)).heap.size ((w9.setCell ⟨w.heap.size, 0, none⟩ (.bool false)).setCell ⟨w.heap.size, 1, none⟩ (.slice none 0 0)))
      have K7 := hide (((unhide K).setNew (p := ⟨w.heap.size, 0, none⟩) (by simp) (.bool false)).setNew (p := ⟨w.heap.size, 1, none⟩) (by simp) (.slice none 0 0))
      clear rp rd K
      go_wp2_with fail
      exact bodyPost_ret (v := .tuple #[.agg #[.bool false, .slice none 0 0], .bool false]) (by simp [results, Tryd.results5, go_sem, q0, q1]) rfl ⟨_, rfl, unhide R, unhide K7⟩
    have hc : wrC bs = true := by unfold wrC; rw [unhide HP, unhide HD]; exact hdg
    have hX : wrX bs = wval false (limbs (digN D)) := by unfold wrX; rw [unhide HP, unhide HD, unhide HN]
    have hl4 : D.length ≤ 400 := by
      have h1 := wr_len hc
      have h2 := wrD_len (pln bs)
      rw [unhide HP, unhide HD] at h2
      rw [unhide HP] at h1
      omega
    have hl5 := dig_short hdg
    have HDG := hide hdg
    have HC := hide hc
    have HX := hide hX
    clear hdg hc hX
    go_wp2_with fail
    have mo := digits_spec w9 rd (unhide HDG) hl4
    refine (mo).mono ?_
    rintro e w3 ⟨v2, rfl, r2, k3⟩
    replace rp := rp.kept k3 (.inr (.inr (Nat.le_refl 0)))
    replace rd := rd.kept k3 (.inr (.inr (Nat.le_refl 0)))
    replace qf0 := k3.loose0 (World.block_lt_of_cell? _ _ q0) qf0
    replace qf1 := k3.loose0 (World.block_lt_of_cell? _ _ q1) qf1
    replace q0 := k3.cell0 q0
    replace q1 := k3.cell0 q1
    replace x0 := k3.cell0 x0
    replace K := hide ((unhide K).trans k3)
    have z4 := k3.size
    clear k3
    clear mo
    go_wp2_with fail
    have mo := make_any false w3 r2 (limbs_nrm _) (by omega)
    rw [← unhide HX] at mo
    refine (mo).mono ?_
    rintro e w5 ⟨v3, rfl, r3, k5⟩
    replace rp := rp.kept k5 (.inr (.inr (Nat.le_refl 0)))
    replace rd := rd.kept k5 (.inr (.inr (Nat.le_refl 0)))
    replace r2 := r2.kept k5 (.inr (.inr (Nat.le_refl 0)))
    replace qf0 := k5.loose0 (World.block_lt_of_cell? _ _ q0) qf0
    replace qf1 := k5.loose0 (World.block_lt_of_cell? _ _ q1) qf1
    replace q0 := k5.cell0 q0
    replace q1 := k5.cell0 q1
    replace x0 := k5.cell0 x0
    replace K := hide ((unhide K).trans k5)
    have z6 := k5.size
    clear k5
    clear mo
    go_wp2_with fail
    have mo := fits3_spec (wsg (wrX bs)) w5 r3
    refine (mo).mono ?_
    rintro e w7 ⟨rfl, k7⟩
    replace rp := rp.kept k7 (.inr (.inr (Nat.le_refl 0)))
    replace rd := rd.kept k7 (.inr (.inr (Nat.le_refl 0)))
    replace r2 := r2.kept k7 (.inr (.inr (Nat.le_refl 0)))
    replace r3 := r3.kept k7 (.inr (.inr (Nat.le_refl 0)))
    replace qf0 := k7.loose0 (World.block_lt_of_cell? _ _ q0) qf0
    replace qf1 := k7.loose0 (World.block_lt_of_cell? _ _ q1) qf1
    replace q0 := k7.cell0 q0
    replace q1 := k7.cell0 q1
    replace x0 := k7.cell0 x0
    replace K := hide ((unhide K).trans k7)
    have z8 := k7.size
    clear k7
    clear mo
    obtain ⟨v7, hv7, h1, h2, R7⟩ := ansW_told (unhide HC) r3
    rw [hv7, h1, h2]
    clear hv7 h1 h2
    rw [(unhide HA).1, (unhide HA).2.1]
    rw [(unhide HA).2.2] at R7
    obtain ⟨a7, c7, hv⟩ := Row.form' R7
    subst hv
    have bX : w.heap.size < w7.heap.size := World.block_lt_of_cell? _ _ q0
    have R := hide (((R7.set_other (p := ⟨w.heap.size, 0, none⟩) (.inl (by have := unhide S0; dsimp only; omega)) (.bool AS)).set_other (p := ⟨w.heap.size, 1, none⟩) (.inl (by have := unhide S0; dsimp only; omega)) (.slice a7 AL.length c7)).tight.wider (lo' := w.heap.size) (by have := unhide S0; omega) (Nat.le_refl _))
    have K7 := hide (((unhide K).setNew (p := ⟨w.heap.size, 0, none⟩) (by simp) (.bool AS)).setNew (p := ⟨w.heap.size, 1, none⟩) (by simp) (.slice a7 AL.length c7))
    clear rp rd r2 r3 R7 K
    go_wp2_with fail
    exact bodyPost_ret (v := .tuple #[.agg #[.bool AS, .slice a7 AL.length c7], .bool AB]) (by simp [results, Tryd.results5, go_sem, q0, q1]) rfl ⟨_, rfl, unhide R, unhide K7⟩
  have HN : Hid (wrN P = false) := by show _ = _; unfold wrN; exact decide_eq_false h45
  have HD : Hid (wrD P = P) := wrD_no (fun e => e.elim h45 h43)
  have e45 : (P.getD 0 0 == 45) = false := beq_eq_false_iff_ne.2 h45
  have e43 : (P.getD 0 0 == 43) = false := beq_eq_false_iff_ne.2 h43
  generalize P.getD 0 0 = z0 at *
  go_wp2_with fail
  have rd := rp
  have mo := isDigits_spec w1 rd
  refine mo.mono ?_
  rintro e w9 ⟨rfl, hw9⟩
  subst hw9
  clear mo
  cases hdg : isDig P
  · have hc : wrC bs = false := by unfold wrC; rw [unhide HP, unhide HD]; exact hdg
    have e1 : AB = false := by rw [← (unhide HA).1]; exact ansWB_no hc
    have e2 : AS = false := by rw [← (unhide HA).2.1]; exact ansWS_no hc
    have e3 : AL = [] := by rw [← (unhide HA).2.2]; exact ansWL_no hc
    subst e1 e2 e3
    clear hc hdg
    have R := hide (Row.nil .i64 true w.heap.size ((w9.setCell ⟨w.heap.size, 0, none⟩ (.bool false)).setCell ⟨w.heap.size, 1, none⟩ (.slice none 0 0)).heap.size ((w9.setCell ⟨w.heap.size, 0, none⟩ (.bool false)).setCell ⟨w.heap.size, 1, none⟩ (.slice none 0 0)))
    have K7 := hide (((unhide K).setNew (p := ⟨w.heap.size, 0, none⟩) (by simp) (.bool false)).setNew (p := ⟨w.heap.size, 1, none⟩) (by simp) (.slice none 0 0))
    clear rp rd K
    go_wp2_with fail
    exact bodyPost_ret (v := .tuple #[.agg #[.bool false, .slice none 0 0], .bool false]) (by simp [results, Tryd.results5, go_sem, q0, q1]) rfl ⟨_, rfl, unhide R, unhide K7⟩
  have hc : wrC bs = true := by unfold wrC; rw [unhide HP, unhide HD]; exact hdg
  have hX : wrX bs = wval false (limbs (digN P)) := by unfold wrX; rw [unhide HP, unhide HD, unhide HN]
  have hl4 : P.length ≤ 400 := by
    have h1 := wr_len hc
    have h2 := wrD_len (pln bs)
    rw [unhide HP, unhide HD] at h2
    rw [unhide HP] at h1
    omega
  have hl5 := dig_short hdg
  have HDG := hide hdg
  have HC := hide hc
  have HX := hide hX
  clear hdg hc hX
  go_wp2_with fail
  have mo := digits_spec w9 rd (unhide HDG) hl4
  refine (mo).mono ?_
  rintro e w3 ⟨v2, rfl, r2, k3⟩
  replace rp := rp.kept k3 (.inr (.inr (Nat.le_refl 0)))
  replace rd := rd.kept k3 (.inr (.inr (Nat.le_refl 0)))
  replace qf0 := k3.loose0 (World.block_lt_of_cell? _ _ q0) qf0
  replace qf1 := k3.loose0 (World.block_lt_of_cell? _ _ q1) qf1
  replace q0 := k3.cell0 q0
  replace q1 := k3.cell0 q1
  replace x0 := k3.cell0 x0
  replace K := hide ((unhide K).trans k3)
  have z4 := k3.size
  clear k3
  clear mo
  go_wp2_with fail
  have mo := make_any false w3 r2 (limbs_nrm _) (by omega)
  rw [← unhide HX] at mo
  refine (mo).mono ?_
  rintro e w5 ⟨v3, rfl, r3, k5⟩
  replace rp := rp.kept k5 (.inr (.inr (Nat.le_refl 0)))
  replace rd := rd.kept k5 (.inr (.inr (Nat.le_refl 0)))
  replace r2 := r2.kept k5 (.inr (.inr (Nat.le_refl 0)))
  replace qf0 := k5.loose0 (World.block_lt_of_cell? _ _ q0) qf0
  replace qf1 := k5.loose0 (World.block_lt_of_cell? _ _ q1) qf1
  replace q0 := k5.cell0 q0
  replace q1 := k5.cell0 q1
  replace x0 := k5.cell0 x0
  replace K := hide ((unhide K).trans k5)
  have z6 := k5.size
  clear k5
  clear mo
  go_wp2_with fail
  have mo := fits3_spec (wsg (wrX bs)) w5 r3
  refine (mo).mono ?_
  rintro e w7 ⟨rfl, k7⟩
  replace rp := rp.kept k7 (.inr (.inr (Nat.le_refl 0)))
  replace rd := rd.kept k7 (.inr (.inr (Nat.le_refl 0)))
  replace r2 := r2.kept k7 (.inr (.inr (Nat.le_refl 0)))
  replace r3 := r3.kept k7 (.inr (.inr (Nat.le_refl 0)))
  replace qf0 := k7.loose0 (World.block_lt_of_cell? _ _ q0) qf0
  replace qf1 := k7.loose0 (World.block_lt_of_cell? _ _ q1) qf1
  replace q0 := k7.cell0 q0
  replace q1 := k7.cell0 q1
  replace x0 := k7.cell0 x0
  replace K := hide ((unhide K).trans k7)
  have z8 := k7.size
  clear k7
  clear mo
  obtain ⟨v7, hv7, h1, h2, R7⟩ := ansW_told (unhide HC) r3
  rw [hv7, h1, h2]
  clear hv7 h1 h2
  rw [(unhide HA).1, (unhide HA).2.1]
  rw [(unhide HA).2.2] at R7
  obtain ⟨a7, c7, hv⟩ := Row.form' R7
  subst hv
  have bX : w.heap.size < w7.heap.size := World.block_lt_of_cell? _ _ q0
  have R := hide (((R7.set_other (p := ⟨w.heap.size, 0, none⟩) (.inl (by have := unhide S0; dsimp only; omega)) (.bool AS)).set_other (p := ⟨w.heap.size, 1, none⟩) (.inl (by have := unhide S0; dsimp only; omega)) (.slice a7 AL.length c7)).tight.wider (lo' := w.heap.size) (by have := unhide S0; omega) (Nat.le_refl _))
  have K7 := hide (((unhide K).setNew (p := ⟨w.heap.size, 0, none⟩) (by simp) (.bool AS)).setNew (p := ⟨w.heap.size, 1, none⟩) (by simp) (.slice a7 AL.length c7))
  clear rp rd r2 r3 R7 K
  go_wp2_with fail
  exact bodyPost_ret (v := .tuple #[.agg #[.bool AS, .slice a7 AL.length c7], .bool AB]) (by simp [results, Tryd.results5, go_sem, q0, q1]) rfl ⟨_, rfl, unhide R, unhide K7⟩

end Go.Proofs.YthglchilgjcloaaDoor
