/-
  The contract of the program's WholeRead.
-/
import Derived.Test.YtckolgaalkohlaaDoorWr1
import Derived.Test.YtckolgaalkohlaaDoorRdS
import Derived.Test.YtckolgaalkohlaaDoorBE
import Derived.Test.YtckolgaalkohlaaDoorBH
import Derived.Test.YtckolgaalkohlaaDoorNat11
namespace Go.Proofs.YtckolgaalkohlaaDoor
open Go.RowKit
set_option linter.unusedVariables false
set_option maxRecDepth 8000
set_option linter.unusedSimpArgs false

theorem rb_byte (x : Int) : ∀ z ∈ rb x, 0 ≤ z ∧ z ≤ 255 := by
  intro z hz
  unfold rb at hz
  by_cases hm : mayB x = false
  · rw [if_pos hm] at hz; cases hz
  · rw [if_neg hm] at hz
    have hm' : mayB x = true := by simpa using hm
    unfold mayB at hm'
    simp only [Bool.and_eq_true, decide_eq_true_eq] at hm'
    repeat' split at hz
    all_goals
      simp only [List.mem_cons, List.not_mem_nil, or_false] at hz
      omega
theorem pln_byte (bs : List Int) : ∀ z ∈ pln bs, 0 ≤ z ∧ z ≤ 255 := by
  unfold pln
  generalize runes bs = rs
  induction rs with
  | nil => simp [plainL]
  | cons r t ih =>
    intro z hz
    simp only [plainL, List.mem_append] at hz
    rcases hz with hz | hz
    · exact rb_byte _ z hz
    · exact ih z hz
theorem pln_first {bs P : List Int} (h : pln bs = P) (hp : 0 < P.length) : 0 ≤ P.getD 0 0 ∧ P.getD 0 0 ≤ 255 := by
  cases P with
  | nil => simp at hp
  | cons a t => exact pln_byte bs a (by rw [h]; exact List.mem_cons_self ..)

set_option maxHeartbeats 8000000 in
theorem wRead_impl {bw : Bool} {lo hi : Nat} {v : Value} {bs : List Int} (w : World) (r : Row .u8 bw lo hi w v bs) (hb : Bytes bs) (T : Tab w) :
    Calls Tryd.prog 7 #[v] w fun e w' => ∃ v', e = .returned (.tuple #[.agg #[.bool (ansWS (wrC bs) (wrX bs)), v'], .bool (ansWB (wrC bs) (wrX bs))]) ∧ Row .i64 true w.heap.size w'.heap.size w' v' (ansWL (wrC bs) (wrX bs)) ∧ Kept 0 0 w w' := by
  have HB := hide hb
  clear hb
  have k0 : Kept 0 0 w (w.alloc (.cells #[.bool false, .slice none 0 0] 28)) := ((Kept.refl 0 0 w).alloc (.cells #[.bool false, .slice none 0 0] 28))
  have q0 : (w.alloc (.cells #[.bool false, .slice none 0 0] 28)).cell? ⟨w.heap.size, 0, none⟩ = some (.bool false) := new_cell2 _ _ _ _ _ _ (by simp) rfl
  have qf0 : (w.alloc (.cells #[.bool false, .slice none 0 0] 28)).frozen? ⟨w.heap.size, 0, none⟩ = false := new_loose2 _ _ _ _ _ (by simp)
  have q1 : (w.alloc (.cells #[.bool false, .slice none 0 0] 28)).cell? ⟨w.heap.size, 1, none⟩ = some (.slice none 0 0) := new_cell2 _ _ _ _ _ _ (by simp) rfl
  have qf1 : (w.alloc (.cells #[.bool false, .slice none 0 0] 28)).frozen? ⟨w.heap.size, 1, none⟩ = false := new_loose2 _ _ _ _ _ (by simp)
  replace r := r.kept k0 (by omega)
  have s0 : (w.alloc (.cells #[.bool false, .slice none 0 0] 28)).heap.size = w.heap.size + 1 := by simp
  obtain ⟨a0, c0, hv⟩ := r.form'
  subst hv
  have K := hide (k0)
  clear k0
  have S0 := hide s0
  clear s0
  have hm := r.len
  unfold maxLen at hm
  obtain ⟨AB, hAB⟩ : ∃ y, ansWB (wrC bs) (wrX bs) = y := ⟨_, rfl⟩
  obtain ⟨AS, hAS⟩ : ∃ y, ansWS (wrC bs) (wrX bs) = y := ⟨_, rfl⟩
  obtain ⟨AL, hAL⟩ : ∃ y, ansWL (wrC bs) (wrX bs) = y := ⟨_, rfl⟩
  rw [hAB, hAS, hAL]
  have HA := hide (And.intro hAB (And.intro hAS hAL))
  clear hAB hAS hAL
  have HT := hide (T.kept (unhide K) (.inr (Nat.le_refl 0)))
  clear T
  go_enter Tryd.func7, Tryd.ntmps7
  go_wp2_with fail
  generalize (w.alloc (.cells #[.bool false, .slice none 0 0] 28)) = W at *
  have mk := plain_impl W r (unhide HB) (unhide HT)
  obtain ⟨P, hP⟩ : ∃ y, pln bs = y := ⟨_, rfl⟩
  rw [show plainL (runes bs) = P from hP] at mk
  have HP := hide hP
  clear hP
  refine (mk).mono ?_
  rintro e w1 ⟨vp, rfl, rp, k1⟩
  replace r := r.kept k1 (.inr (.inr (Nat.le_refl 0)))
  replace qf0 := k1.loose0 (World.block_lt_of_cell? _ _ q0) qf0
  replace qf1 := k1.loose0 (World.block_lt_of_cell? _ _ q1) qf1
  replace q0 := k1.cell0 q0
  replace q1 := k1.cell0 q1
  replace K := hide ((unhide K).trans k1)
  have z2 := k1.size
  clear k1
  clear mk HT
  clear r
  obtain ⟨ap, cp, hv⟩ := Row.form' rp
  subst hv
  have hmp := rp.len
  unfold maxLen at hmp
  by_cases hbig : 400 < P.length
  · have hbig' : (400 : Int) < (P.length : Int) := by omega
    have hc : wrC bs = false := Bool.eq_false_iff.2 (fun e => by have := wr_len e; rw [unhide HP] at this; omega)
    have e1 : AB = false := by rw [← (unhide HA).1]; exact ansWB_no hc
    have e2 : AS = false := by rw [← (unhide HA).2.1]; exact ansWS_no hc
    have e3 : AL = [] := by rw [← (unhide HA).2.2]; exact ansWL_no hc
    subst e1 e2 e3
    clear hc
    have R := hide (Row.nil .i64 true w.heap.size ((w1.setCell ⟨w.heap.size, 0, none⟩ (.bool false)).setCell ⟨w.heap.size, 1, none⟩ (.slice none 0 0)).heap.size ((w1.setCell ⟨w.heap.size, 0, none⟩ (.bool false)).setCell ⟨w.heap.size, 1, none⟩ (.slice none 0 0)))
    have K7 := hide (((unhide K).setNew (p := ⟨w.heap.size, 0, none⟩) (by simp) (.bool false)).setNew (p := ⟨w.heap.size, 1, none⟩) (by simp) (.slice none 0 0))
    clear rp K
    go_wp2_with fail
    exact bodyPost_ret (v := .tuple #[.agg #[.bool false, .slice none 0 0], .bool false]) (by simp [results, Tryd.results7, go_sem, q0, q1]) rfl ⟨_, rfl, unhide R, unhide K7⟩
  have hbig' : ¬ (400 : Int) < (P.length : Int) := by omega
  by_cases hz : P.length = 0
  · have hp0 : P = [] := List.length_eq_zero_iff.1 hz
    subst hp0
    clear hz
    have hc : wrC bs = false := by unfold wrC; rw [unhide HP]; rfl
    have e1 : AB = false := by rw [← (unhide HA).1]; exact ansWB_no hc
    have e2 : AS = false := by rw [← (unhide HA).2.1]; exact ansWS_no hc
    have e3 : AL = [] := by rw [← (unhide HA).2.2]; exact ansWL_no hc
    subst e1 e2 e3
    clear hc
    have R := hide (Row.nil .i64 true w.heap.size ((w1.setCell ⟨w.heap.size, 0, none⟩ (.bool false)).setCell ⟨w.heap.size, 1, none⟩ (.slice none 0 0)).heap.size ((w1.setCell ⟨w.heap.size, 0, none⟩ (.bool false)).setCell ⟨w.heap.size, 1, none⟩ (.slice none 0 0)))
    have K7 := hide (((unhide K).setNew (p := ⟨w.heap.size, 0, none⟩) (by simp) (.bool false)).setNew (p := ⟨w.heap.size, 1, none⟩) (by simp) (.slice none 0 0))
    clear rp K
    go_wp2_with fail
    exact bodyPost_ret (v := .tuple #[.agg #[.bool false, .slice none 0 0], .bool false]) (by simp [results, Tryd.results7, go_sem, q0, q1]) rfl ⟨_, rfl, unhide R, unhide K7⟩
  have hpos : 0 < P.length := by omega
  have hz' : ((P.length : Int) == 0) = false := beq_eq_false_iff_ne.2 (by omega)
  obtain ⟨hz0, hz1⟩ := pln_first (unhide HP) hpos
  obtain ⟨g0, o0, hx, x0⟩ := (row_cell rp).2.2.2 0 hpos
  cases hx
  rw [Nat.add_zero] at x0
  have RP := rp
  clear RP
  have rp0 := rp
  have q0P := q0
  have q1P := q1
  have qf0P := qf0
  have qf1P := qf1
  have KP := K
  have kP := Kept.refl 0 0 w1
  have kn := (Kept.refl 0 0 w1).alloc (.cells #[.slice none 0 0, .bool false] 48)
  have y0 : (w1.alloc (.cells #[.slice none 0 0, .bool false] 48)).cell? ⟨w1.heap.size, 0, none⟩ = some (.slice none 0 0) := new_cell2 _ _ _ _ _ _ rfl rfl
  have y1 : (w1.alloc (.cells #[.slice none 0 0, .bool false] 48)).cell? ⟨w1.heap.size, 1, none⟩ = some (.bool false) := new_cell2 _ _ _ _ _ _ rfl rfl
  have yf0 : (w1.alloc (.cells #[.slice none 0 0, .bool false] 48)).frozen? ⟨w1.heap.size, 0, none⟩ = false := new_loose2 _ _ _ _ _ rfl
  have yf1 : (w1.alloc (.cells #[.slice none 0 0, .bool false] 48)).frozen? ⟨w1.heap.size, 1, none⟩ = false := new_loose2 _ _ _ _ _ rfl
  have szn : w1.heap.size + 1 = (w1.alloc (.cells #[.slice none 0 0, .bool false] 48)).heap.size := by simp
  replace rp := rp.kept kn (.inr (.inr (Nat.le_refl 0)))
  replace kP := kP.trans kn
  replace qf0 := kn.loose0 (World.block_lt_of_cell? _ _ q0) qf0
  replace qf1 := kn.loose0 (World.block_lt_of_cell? _ _ q1) qf1
  replace q0 := kn.cell0 q0
  replace q1 := kn.cell0 q1
  replace x0 := kn.cell0 x0
  replace K := hide ((unhide K).trans kn)
  have z3 := kn.size
  clear kn
  have hwz : IntKind.i64.wrap (P.getD 0 0) = P.getD 0 0 := by rw [IntKind.wrap_i64]; omega
  obtain ⟨z0, hz00⟩ : ∃ y, P.getD 0 0 = y := ⟨_, rfl⟩
  rw [hz00] at x0 hwz hz0 hz1
  have HZ0 := hide hz00
  clear hz00
  go_wp2_with fail
  obtain ⟨G, hG⟩ : ∃ y, w1.heap.size = y := ⟨_, rfl⟩
  rw [hG] at y0 y1 yf0 yf1 szn ⊢
  generalize w1.alloc (.cells #[.slice none 0 0, .bool false] 48) = wy at *
  have HG := hide hG
  clear hG
  have mo := sign_impl z0 wy
  rw [sgn_byte (by omega)] at mo
  by_cases h45 : z0 = 45
  · subst h45
    have HN : Hid (wrN P = true) := by show _ = _; unfold wrN; rw [unhide HZ0]; rfl
    have HD : Hid (wrD P = P.drop 1) := wrD_yes (by rw [unhide HZ0]; simp)
    rw [show (if (45 : Int) = 43 then (1 : Int) else if (45 : Int) = 45 then -1 else 0) = -1 by decide] at mo
    refine mo.mono ?_
    rintro e w8 ⟨rfl, hw8⟩
    subst hw8
    clear mo
    by_cases hone : P.length = 1
    · have HD0 : Hid (P.drop 1 = []) := List.drop_of_length_le (by omega)
      have hcap : P.length ≤ cp := (row_cell rp).2.1
      have hcapm : cp ≤ 9223372036854775807 := by have := (row_cell rp).2.2.1; unfold maxLen at this; omega
      have hp1 : (1 : Int) ≤ (P.length : Int) := by omega
      have HN0 : Hid (P.length - 1 = 0) := by show _ = _; omega
      clear hone
      by_cases hcp : cp = 1
      · subst hcp
        have kx := kP.setNew (p := ⟨G, 1, none⟩) (by rw [unhide HG]; exact Nat.le_refl _) (.bool true)
        have y0s := cell_off _ _ _ 1 (.bool true) _ y0 (show (0 : Nat) ≠ 1 by decide)
        have y1s := cell_on _ _ _ (.bool true) _ y1
        have yf0s : (w8.setCell ⟨G, 1, none⟩ (.bool true)).frozen? ⟨G, 0, none⟩ = false := (frozen_set _ _ _ _ _).trans yf0
        have yf1s : (w8.setCell ⟨G, 1, none⟩ (.bool true)).frozen? ⟨G, 1, none⟩ = false := (frozen_set _ _ _ _ _).trans yf1
        go_wp2_with fail
        generalize w8.setCell ⟨G, 1, none⟩ (.bool true) = ws at *
        replace y0 := y0s
        replace y1 := y1s
        replace yf0 := yf0s
        replace yf1 := yf1s
        replace kP := kx
        clear y0s y1s yf0s yf1s kx
        have rd := True.intro
        try rw [unhide HN0]
        have n0 : Num (G + 1) ws G (.slice none 0 0) [] := ⟨y0, yf0, World.ownsRow_nil _ _ _ _, by simp [Value.ownBlock]⟩
        have d0 : Sd ws G true := ⟨y1, yf1⟩
        have rdd := readDigits_side (bs := []) (w0 := w1) (v := _) (Row.empty .u8 true 0 0 _ (some ⟨g0, o0, none⟩) 0 (by simp [maxLen])) kP n0 (by rw [unhide HG]; exact Nat.le_refl _) (by rw [unhide HG]; omega) (by have := kP.size; have := World.block_lt_of_cell? _ _ y0; dsimp only at this; omega) (by simp)
        rw [show isDig ([] : List Int) = false from rfl] at rdd
        refine rdd.mono ?_
        rintro e w9 ⟨rfl, dg, k9, sd9⟩
        clear rdd
        replace q0 := k9.cell0 q0P
        replace q1 := k9.cell0 q1P
        replace qf0 := k9.loose0 (World.block_lt_of_cell? _ _ q0P) qf0P
        replace qf1 := k9.loose0 (World.block_lt_of_cell? _ _ q1P) qf1P
        replace K := hide ((unhide KP).trans k9)
        clear q0P q1P qf0P qf1P KP x0 y0 y1 yf0 yf1 n0 rp rd
        clear dg k9 kP sd9 d0 rp0
        have hc : wrC bs = false := by unfold wrC; rw [unhide HP, unhide HD, unhide HD0]; rfl
        have e1 : AB = false := by rw [← (unhide HA).1]; exact ansWB_no hc
        have e2 : AS = false := by rw [← (unhide HA).2.1]; exact ansWS_no hc
        have e3 : AL = [] := by rw [← (unhide HA).2.2]; exact ansWL_no hc
        subst e1 e2 e3
        clear hc
        have R := hide (Row.nil .i64 true w.heap.size ((w9.setCell ⟨w.heap.size, 0, none⟩ (.bool false)).setCell ⟨w.heap.size, 1, none⟩ (.slice none 0 0)).heap.size ((w9.setCell ⟨w.heap.size, 0, none⟩ (.bool false)).setCell ⟨w.heap.size, 1, none⟩ (.slice none 0 0)))
        have K7 := hide (((unhide K).setNew (p := ⟨w.heap.size, 0, none⟩) (by simp) (.bool false)).setNew (p := ⟨w.heap.size, 1, none⟩) (by simp) (.slice none 0 0))
        clear K
        go_wp2_with fail
        exact bodyPost_ret (v := .tuple #[.agg #[.bool false, .slice none 0 0], .bool false]) (by simp [results, Tryd.results7, go_sem, q0, q1]) rfl ⟨_, rfl, unhide R, unhide K7⟩
      have kx := kP.setNew (p := ⟨G, 1, none⟩) (by rw [unhide HG]; exact Nat.le_refl _) (.bool true)
      have y0s := cell_off _ _ _ 1 (.bool true) _ y0 (show (0 : Nat) ≠ 1 by decide)
      have y1s := cell_on _ _ _ (.bool true) _ y1
      have yf0s : (w8.setCell ⟨G, 1, none⟩ (.bool true)).frozen? ⟨G, 0, none⟩ = false := (frozen_set _ _ _ _ _).trans yf0
      have yf1s : (w8.setCell ⟨G, 1, none⟩ (.bool true)).frozen? ⟨G, 1, none⟩ = false := (frozen_set _ _ _ _ _).trans yf1
      go_wp2_with fail
      generalize w8.setCell ⟨G, 1, none⟩ (.bool true) = ws at *
      replace y0 := y0s
      replace y1 := y1s
      replace yf0 := yf0s
      replace yf1 := yf1s
      replace kP := kx
      clear y0s y1s yf0s yf1s kx
      have rd := True.intro
      try rw [unhide HN0]
      have n0 : Num (G + 1) ws G (.slice none 0 0) [] := ⟨y0, yf0, World.ownsRow_nil _ _ _ _, by simp [Value.ownBlock]⟩
      have d0 : Sd ws G true := ⟨y1, yf1⟩
      have rdd := readDigits_side (bs := []) (w0 := w1) (v := _) (Row.empty .u8 true 0 0 _ (some ⟨g0, o0 + 1, none⟩) (cp - 1) (by unfold maxLen; omega)) kP n0 (by rw [unhide HG]; exact Nat.le_refl _) (by rw [unhide HG]; omega) (by have := kP.size; have := World.block_lt_of_cell? _ _ y0; dsimp only at this; omega) (by simp)
      rw [show isDig ([] : List Int) = false from rfl] at rdd
      refine rdd.mono ?_
      rintro e w9 ⟨rfl, dg, k9, sd9⟩
      clear rdd
      replace q0 := k9.cell0 q0P
      replace q1 := k9.cell0 q1P
      replace qf0 := k9.loose0 (World.block_lt_of_cell? _ _ q0P) qf0P
      replace qf1 := k9.loose0 (World.block_lt_of_cell? _ _ q1P) qf1P
      replace K := hide ((unhide KP).trans k9)
      clear q0P q1P qf0P qf1P KP x0 y0 y1 yf0 yf1 n0 rp rd
      clear dg k9 kP sd9 d0 rp0
      have hc : wrC bs = false := by unfold wrC; rw [unhide HP, unhide HD, unhide HD0]; rfl
      have e1 : AB = false := by rw [← (unhide HA).1]; exact ansWB_no hc
      have e2 : AS = false := by rw [← (unhide HA).2.1]; exact ansWS_no hc
      have e3 : AL = [] := by rw [← (unhide HA).2.2]; exact ansWL_no hc
      subst e1 e2 e3
      clear hc
      have R := hide (Row.nil .i64 true w.heap.size ((w9.setCell ⟨w.heap.size, 0, none⟩ (.bool false)).setCell ⟨w.heap.size, 1, none⟩ (.slice none 0 0)).heap.size ((w9.setCell ⟨w.heap.size, 0, none⟩ (.bool false)).setCell ⟨w.heap.size, 1, none⟩ (.slice none 0 0)))
      have K7 := hide (((unhide K).setNew (p := ⟨w.heap.size, 0, none⟩) (by simp) (.bool false)).setNew (p := ⟨w.heap.size, 1, none⟩) (by simp) (.slice none 0 0))
      clear K
      go_wp2_with fail
      exact bodyPost_ret (v := .tuple #[.agg #[.bool false, .slice none 0 0], .bool false]) (by simp [results, Tryd.results7, go_sem, q0, q1]) rfl ⟨_, rfl, unhide R, unhide K7⟩
    have rd0 := rp0.drop 1 (by omega)
    have hlD : (P.drop 1).length ≤ 400 := by simp; omega
    obtain ⟨D, hDD⟩ : ∃ y, P.drop 1 = y := ⟨_, rfl⟩
    rw [hDD] at rd0 HD hlD
    clear hDD
    have hcap : P.length ≤ cp := (row_cell rp).2.1
    have hcapm : cp ≤ 9223372036854775807 := by have := (row_cell rp).2.2.1; unfold maxLen at this; omega
    have hp1 : (1 : Int) ≤ (P.length : Int) := by omega
    have hcp : ¬ cp = 1 := by omega
    clear hone
    have kx := kP.setNew (p := ⟨G, 1, none⟩) (by rw [unhide HG]; exact Nat.le_refl _) (.bool true)
    have y0s := cell_off _ _ _ 1 (.bool true) _ y0 (show (0 : Nat) ≠ 1 by decide)
    have y1s := cell_on _ _ _ (.bool true) _ y1
    have yf0s : (w8.setCell ⟨G, 1, none⟩ (.bool true)).frozen? ⟨G, 0, none⟩ = false := (frozen_set _ _ _ _ _).trans yf0
    have yf1s : (w8.setCell ⟨G, 1, none⟩ (.bool true)).frozen? ⟨G, 1, none⟩ = false := (frozen_set _ _ _ _ _).trans yf1
    go_wp2_with fail
    generalize w8.setCell ⟨G, 1, none⟩ (.bool true) = ws at *
    replace y0 := y0s
    replace y1 := y1s
    replace yf0 := yf0s
    replace yf1 := yf1s
    replace kP := kx
    clear y0s y1s yf0s yf1s kx
    have rd := True.intro
    have n0 : Num (G + 1) ws G (.slice none 0 0) [] := ⟨y0, yf0, World.ownsRow_nil _ _ _ _, by simp [Value.ownBlock]⟩
    have d0 : Sd ws G true := ⟨y1, yf1⟩
    have rdd := readDigits_side rd0 kP n0 (by rw [unhide HG]; exact Nat.le_refl _) (by rw [unhide HG]; omega) (by have := kP.size; have := World.block_lt_of_cell? _ _ y0; dsimp only at this; omega) (hlD)
    refine rdd.mono ?_
    rintro e w9 ⟨rfl, dg, k9, sd9⟩
    clear rdd
    replace q0 := k9.cell0 q0P
    replace q1 := k9.cell0 q1P
    replace qf0 := k9.loose0 (World.block_lt_of_cell? _ _ q0P) qf0P
    replace qf1 := k9.loose0 (World.block_lt_of_cell? _ _ q1P) qf1P
    replace K := hide ((unhide KP).trans k9)
    clear q0P q1P qf0P qf1P KP x0 y0 y1 yf0 yf1 n0 rp rd
    cases hdg : isDig D
    · clear dg k9 kP sd9 d0 rp0 rd0
      have hc : wrC bs = false := by unfold wrC; rw [unhide HP, unhide HD]; exact hdg
      have e1 : AB = false := by rw [← (unhide HA).1]; exact ansWB_no hc
      have e2 : AS = false := by rw [← (unhide HA).2.1]; exact ansWS_no hc
      have e3 : AL = [] := by rw [← (unhide HA).2.2]; exact ansWL_no hc
      subst e1 e2 e3
      clear hc hdg
      have R := hide (Row.nil .i64 true w.heap.size ((w9.setCell ⟨w.heap.size, 0, none⟩ (.bool false)).setCell ⟨w.heap.size, 1, none⟩ (.slice none 0 0)).heap.size ((w9.setCell ⟨w.heap.size, 0, none⟩ (.bool false)).setCell ⟨w.heap.size, 1, none⟩ (.slice none 0 0)))
      have K7 := hide (((unhide K).setNew (p := ⟨w.heap.size, 0, none⟩) (by simp) (.bool false)).setNew (p := ⟨w.heap.size, 1, none⟩) (by simp) (.slice none 0 0))
      clear K
      go_wp2_with fail
      exact bodyPost_ret (v := .tuple #[.agg #[.bool false, .slice none 0 0], .bool false]) (by simp [results, Tryd.results7, go_sem, q0, q1]) rfl ⟨_, rfl, unhide R, unhide K7⟩
    obtain ⟨u9, n9⟩ := dg hdg
    have hc : wrC bs = true := by unfold wrC; rw [unhide HP, unhide HD]; exact hdg
    have hX : wrX bs = wval true (limbs (digN D)) := by unfold wrX; rw [unhide HP, unhide HD, unhide HN]
    have WA := wr_ans true (digN D)
    rw [← hX] at WA
    have HA2 := unhide HA
    rw [hc] at HA2
    rw [HA2.1, HA2.2.1, HA2.2.2] at WA
    have d9 := d0.same sd9
    have z9 := k9.size
    clear hc hX hdg dg HA2 d0 sd9 k9 kP
    go_wp2_with fail
    have mo := toldSigned_impl w9 n9 d9
    rw [← WA.2.1, ← WA.1, ← WA.2.2] at mo
    clear WA
    refine (mo).mono ?_
    rintro e w4 ⟨v7, rfl, r7, k4⟩
    replace qf0 := k4.loose0 (World.block_lt_of_cell? _ _ q0) qf0
    replace qf1 := k4.loose0 (World.block_lt_of_cell? _ _ q1) qf1
    replace q0 := k4.cell0 q0
    replace q1 := k4.cell0 q1
    replace K := hide ((unhide K).trans k4)
    have z5 := k4.size
    clear k4
    clear mo n9 d9
    obtain ⟨a7, c7, hv⟩ := Row.form' r7
    subst hv
    have bX : w.heap.size < w4.heap.size := World.block_lt_of_cell? _ _ q0
    have R := hide (((r7.set_other (p := ⟨w.heap.size, 0, none⟩) (.inl (by have := unhide S0; dsimp only; omega)) (.bool AS)).set_other (p := ⟨w.heap.size, 1, none⟩) (.inl (by have := unhide S0; dsimp only; omega)) (.slice a7 AL.length c7)).tight.wider (lo' := w.heap.size) (by have := unhide S0; omega) (Nat.le_refl _))
    have K7 := hide (((unhide K).setNew (p := ⟨w.heap.size, 0, none⟩) (by simp) (.bool AS)).setNew (p := ⟨w.heap.size, 1, none⟩) (by simp) (.slice a7 AL.length c7))
    clear r7 K
    go_wp2_with fail
    exact bodyPost_ret (v := .tuple #[.agg #[.bool AS, .slice a7 AL.length c7], .bool AB]) (by simp [results, Tryd.results7, go_sem, q0, q1]) rfl ⟨_, rfl, unhide R, unhide K7⟩
  by_cases h43 : z0 = 43
  · subst h43
    have HN : Hid (wrN P = false) := by show _ = _; unfold wrN; rw [unhide HZ0]; rfl
    have HD : Hid (wrD P = P.drop 1) := wrD_yes (by rw [unhide HZ0]; simp)
    rw [show (if (43 : Int) = 43 then (1 : Int) else if (43 : Int) = 45 then -1 else 0) = 1 by decide] at mo
    refine mo.mono ?_
    rintro e w8 ⟨rfl, hw8⟩
    subst hw8
    clear mo
    by_cases hone : P.length = 1
    · have HD0 : Hid (P.drop 1 = []) := List.drop_of_length_le (by omega)
      have hcap : P.length ≤ cp := (row_cell rp).2.1
      have hcapm : cp ≤ 9223372036854775807 := by have := (row_cell rp).2.2.1; unfold maxLen at this; omega
      have hp1 : (1 : Int) ≤ (P.length : Int) := by omega
      have HN0 : Hid (P.length - 1 = 0) := by show _ = _; omega
      clear hone
      by_cases hcp : cp = 1
      · subst hcp
        have kx := kP.setNew (p := ⟨G, 1, none⟩) (by rw [unhide HG]; exact Nat.le_refl _) (.bool false)
        have y0s := cell_off _ _ _ 1 (.bool false) _ y0 (show (0 : Nat) ≠ 1 by decide)
        have y1s := cell_on _ _ _ (.bool false) _ y1
        have yf0s : (w8.setCell ⟨G, 1, none⟩ (.bool false)).frozen? ⟨G, 0, none⟩ = false := (frozen_set _ _ _ _ _).trans yf0
        have yf1s : (w8.setCell ⟨G, 1, none⟩ (.bool false)).frozen? ⟨G, 1, none⟩ = false := (frozen_set _ _ _ _ _).trans yf1
        go_wp2_with fail
        generalize w8.setCell ⟨G, 1, none⟩ (.bool false) = ws at *
        replace y0 := y0s
        replace y1 := y1s
        replace yf0 := yf0s
        replace yf1 := yf1s
        replace kP := kx
        clear y0s y1s yf0s yf1s kx
        have rd := True.intro
        try rw [unhide HN0]
        have n0 : Num (G + 1) ws G (.slice none 0 0) [] := ⟨y0, yf0, World.ownsRow_nil _ _ _ _, by simp [Value.ownBlock]⟩
        have d0 : Sd ws G false := ⟨y1, yf1⟩
        have rdd := readDigits_side (bs := []) (w0 := w1) (v := _) (Row.empty .u8 true 0 0 _ (some ⟨g0, o0, none⟩) 0 (by simp [maxLen])) kP n0 (by rw [unhide HG]; exact Nat.le_refl _) (by rw [unhide HG]; omega) (by have := kP.size; have := World.block_lt_of_cell? _ _ y0; dsimp only at this; omega) (by simp)
        rw [show isDig ([] : List Int) = false from rfl] at rdd
        refine rdd.mono ?_
        rintro e w9 ⟨rfl, dg, k9, sd9⟩
        clear rdd
        replace q0 := k9.cell0 q0P
        replace q1 := k9.cell0 q1P
        replace qf0 := k9.loose0 (World.block_lt_of_cell? _ _ q0P) qf0P
        replace qf1 := k9.loose0 (World.block_lt_of_cell? _ _ q1P) qf1P
        replace K := hide ((unhide KP).trans k9)
        clear q0P q1P qf0P qf1P KP x0 y0 y1 yf0 yf1 n0 rp rd
        clear dg k9 kP sd9 d0 rp0
        have hc : wrC bs = false := by unfold wrC; rw [unhide HP, unhide HD, unhide HD0]; rfl
        have e1 : AB = false := by rw [← (unhide HA).1]; exact ansWB_no hc
        have e2 : AS = false := by rw [← (unhide HA).2.1]; exact ansWS_no hc
        have e3 : AL = [] := by rw [← (unhide HA).2.2]; exact ansWL_no hc
        subst e1 e2 e3
        clear hc
        have R := hide (Row.nil .i64 true w.heap.size ((w9.setCell ⟨w.heap.size, 0, none⟩ (.bool false)).setCell ⟨w.heap.size, 1, none⟩ (.slice none 0 0)).heap.size ((w9.setCell ⟨w.heap.size, 0, none⟩ (.bool false)).setCell ⟨w.heap.size, 1, none⟩ (.slice none 0 0)))
        have K7 := hide (((unhide K).setNew (p := ⟨w.heap.size, 0, none⟩) (by simp) (.bool false)).setNew (p := ⟨w.heap.size, 1, none⟩) (by simp) (.slice none 0 0))
        clear K
        go_wp2_with fail
        exact bodyPost_ret (v := .tuple #[.agg #[.bool false, .slice none 0 0], .bool false]) (by simp [results, Tryd.results7, go_sem, q0, q1]) rfl ⟨_, rfl, unhide R, unhide K7⟩
      have kx := kP.setNew (p := ⟨G, 1, none⟩) (by rw [unhide HG]; exact Nat.le_refl _) (.bool false)
      have y0s := cell_off _ _ _ 1 (.bool false) _ y0 (show (0 : Nat) ≠ 1 by decide)
      have y1s := cell_on _ _ _ (.bool false) _ y1
      have yf0s : (w8.setCell ⟨G, 1, none⟩ (.bool false)).frozen? ⟨G, 0, none⟩ = false := (frozen_set _ _ _ _ _).trans yf0
      have yf1s : (w8.setCell ⟨G, 1, none⟩ (.bool false)).frozen? ⟨G, 1, none⟩ = false := (frozen_set _ _ _ _ _).trans yf1
      go_wp2_with fail
      generalize w8.setCell ⟨G, 1, none⟩ (.bool false) = ws at *
      replace y0 := y0s
      replace y1 := y1s
      replace yf0 := yf0s
      replace yf1 := yf1s
      replace kP := kx
      clear y0s y1s yf0s yf1s kx
      have rd := True.intro
      try rw [unhide HN0]
      have n0 : Num (G + 1) ws G (.slice none 0 0) [] := ⟨y0, yf0, World.ownsRow_nil _ _ _ _, by simp [Value.ownBlock]⟩
      have d0 : Sd ws G false := ⟨y1, yf1⟩
      have rdd := readDigits_side (bs := []) (w0 := w1) (v := _) (Row.empty .u8 true 0 0 _ (some ⟨g0, o0 + 1, none⟩) (cp - 1) (by unfold maxLen; omega)) kP n0 (by rw [unhide HG]; exact Nat.le_refl _) (by rw [unhide HG]; omega) (by have := kP.size; have := World.block_lt_of_cell? _ _ y0; dsimp only at this; omega) (by simp)
      rw [show isDig ([] : List Int) = false from rfl] at rdd
      refine rdd.mono ?_
      rintro e w9 ⟨rfl, dg, k9, sd9⟩
      clear rdd
      replace q0 := k9.cell0 q0P
      replace q1 := k9.cell0 q1P
      replace qf0 := k9.loose0 (World.block_lt_of_cell? _ _ q0P) qf0P
      replace qf1 := k9.loose0 (World.block_lt_of_cell? _ _ q1P) qf1P
      replace K := hide ((unhide KP).trans k9)
      clear q0P q1P qf0P qf1P KP x0 y0 y1 yf0 yf1 n0 rp rd
      clear dg k9 kP sd9 d0 rp0
      have hc : wrC bs = false := by unfold wrC; rw [unhide HP, unhide HD, unhide HD0]; rfl
      have e1 : AB = false := by rw [← (unhide HA).1]; exact ansWB_no hc
      have e2 : AS = false := by rw [← (unhide HA).2.1]; exact ansWS_no hc
      have e3 : AL = [] := by rw [← (unhide HA).2.2]; exact ansWL_no hc
      subst e1 e2 e3
      clear hc
      have R := hide (Row.nil .i64 true w.heap.size ((w9.setCell ⟨w.heap.size, 0, none⟩ (.bool false)).setCell ⟨w.heap.size, 1, none⟩ (.slice none 0 0)).heap.size ((w9.setCell ⟨w.heap.size, 0, none⟩ (.bool false)).setCell ⟨w.heap.size, 1, none⟩ (.slice none 0 0)))
      have K7 := hide (((unhide K).setNew (p := ⟨w.heap.size, 0, none⟩) (by simp) (.bool false)).setNew (p := ⟨w.heap.size, 1, none⟩) (by simp) (.slice none 0 0))
      clear K
      go_wp2_with fail
      exact bodyPost_ret (v := .tuple #[.agg #[.bool false, .slice none 0 0], .bool false]) (by simp [results, Tryd.results7, go_sem, q0, q1]) rfl ⟨_, rfl, unhide R, unhide K7⟩
    have rd0 := rp0.drop 1 (by omega)
    have hlD : (P.drop 1).length ≤ 400 := by simp; omega
    obtain ⟨D, hDD⟩ : ∃ y, P.drop 1 = y := ⟨_, rfl⟩
    rw [hDD] at rd0 HD hlD
    clear hDD
    have hcap : P.length ≤ cp := (row_cell rp).2.1
    have hcapm : cp ≤ 9223372036854775807 := by have := (row_cell rp).2.2.1; unfold maxLen at this; omega
    have hp1 : (1 : Int) ≤ (P.length : Int) := by omega
    have hcp : ¬ cp = 1 := by omega
    clear hone
    have kx := kP.setNew (p := ⟨G, 1, none⟩) (by rw [unhide HG]; exact Nat.le_refl _) (.bool false)
    have y0s := cell_off _ _ _ 1 (.bool false) _ y0 (show (0 : Nat) ≠ 1 by decide)
    have y1s := cell_on _ _ _ (.bool false) _ y1
    have yf0s : (w8.setCell ⟨G, 1, none⟩ (.bool false)).frozen? ⟨G, 0, none⟩ = false := (frozen_set _ _ _ _ _).trans yf0
    have yf1s : (w8.setCell ⟨G, 1, none⟩ (.bool false)).frozen? ⟨G, 1, none⟩ = false := (frozen_set _ _ _ _ _).trans yf1
    go_wp2_with fail
    generalize w8.setCell ⟨G, 1, none⟩ (.bool false) = ws at *
    replace y0 := y0s
    replace y1 := y1s
    replace yf0 := yf0s
    replace yf1 := yf1s
    replace kP := kx
    clear y0s y1s yf0s yf1s kx
    have rd := True.intro
    have n0 : Num (G + 1) ws G (.slice none 0 0) [] := ⟨y0, yf0, World.ownsRow_nil _ _ _ _, by simp [Value.ownBlock]⟩
    have d0 : Sd ws G false := ⟨y1, yf1⟩
    have rdd := readDigits_side rd0 kP n0 (by rw [unhide HG]; exact Nat.le_refl _) (by rw [unhide HG]; omega) (by have := kP.size; have := World.block_lt_of_cell? _ _ y0; dsimp only at this; omega) (hlD)
    refine rdd.mono ?_
    rintro e w9 ⟨rfl, dg, k9, sd9⟩
    clear rdd
    replace q0 := k9.cell0 q0P
    replace q1 := k9.cell0 q1P
    replace qf0 := k9.loose0 (World.block_lt_of_cell? _ _ q0P) qf0P
    replace qf1 := k9.loose0 (World.block_lt_of_cell? _ _ q1P) qf1P
    replace K := hide ((unhide KP).trans k9)
    clear q0P q1P qf0P qf1P KP x0 y0 y1 yf0 yf1 n0 rp rd
    cases hdg : isDig D
    · clear dg k9 kP sd9 d0 rp0 rd0
      have hc : wrC bs = false := by unfold wrC; rw [unhide HP, unhide HD]; exact hdg
      have e1 : AB = false := by rw [← (unhide HA).1]; exact ansWB_no hc
      have e2 : AS = false := by rw [← (unhide HA).2.1]; exact ansWS_no hc
      have e3 : AL = [] := by rw [← (unhide HA).2.2]; exact ansWL_no hc
      subst e1 e2 e3
      clear hc hdg
      have R := hide (Row.nil .i64 true w.heap.size ((w9.setCell ⟨w.heap.size, 0, none⟩ (.bool false)).setCell ⟨w.heap.size, 1, none⟩ (.slice none 0 0)).heap.size ((w9.setCell ⟨w.heap.size, 0, none⟩ (.bool false)).setCell ⟨w.heap.size, 1, none⟩ (.slice none 0 0)))
      have K7 := hide (((unhide K).setNew (p := ⟨w.heap.size, 0, none⟩) (by simp) (.bool false)).setNew (p := ⟨w.heap.size, 1, none⟩) (by simp) (.slice none 0 0))
      clear K
      go_wp2_with fail
      exact bodyPost_ret (v := .tuple #[.agg #[.bool false, .slice none 0 0], .bool false]) (by simp [results, Tryd.results7, go_sem, q0, q1]) rfl ⟨_, rfl, unhide R, unhide K7⟩
    obtain ⟨u9, n9⟩ := dg hdg
    have hc : wrC bs = true := by unfold wrC; rw [unhide HP, unhide HD]; exact hdg
    have hX : wrX bs = wval false (limbs (digN D)) := by unfold wrX; rw [unhide HP, unhide HD, unhide HN]
    have WA := wr_ans false (digN D)
    rw [← hX] at WA
    have HA2 := unhide HA
    rw [hc] at HA2
    rw [HA2.1, HA2.2.1, HA2.2.2] at WA
    have d9 := d0.same sd9
    have z9 := k9.size
    clear hc hX hdg dg HA2 d0 sd9 k9 kP
    go_wp2_with fail
    have mo := toldSigned_impl w9 n9 d9
    rw [← WA.2.1, ← WA.1, ← WA.2.2] at mo
    clear WA
    refine (mo).mono ?_
    rintro e w4 ⟨v7, rfl, r7, k4⟩
    replace qf0 := k4.loose0 (World.block_lt_of_cell? _ _ q0) qf0
    replace qf1 := k4.loose0 (World.block_lt_of_cell? _ _ q1) qf1
    replace q0 := k4.cell0 q0
    replace q1 := k4.cell0 q1
    replace K := hide ((unhide K).trans k4)
    have z5 := k4.size
    clear k4
    clear mo n9 d9
    obtain ⟨a7, c7, hv⟩ := Row.form' r7
    subst hv
    have bX : w.heap.size < w4.heap.size := World.block_lt_of_cell? _ _ q0
    have R := hide (((r7.set_other (p := ⟨w.heap.size, 0, none⟩) (.inl (by have := unhide S0; dsimp only; omega)) (.bool AS)).set_other (p := ⟨w.heap.size, 1, none⟩) (.inl (by have := unhide S0; dsimp only; omega)) (.slice a7 AL.length c7)).tight.wider (lo' := w.heap.size) (by have := unhide S0; omega) (Nat.le_refl _))
    have K7 := hide (((unhide K).setNew (p := ⟨w.heap.size, 0, none⟩) (by simp) (.bool AS)).setNew (p := ⟨w.heap.size, 1, none⟩) (by simp) (.slice a7 AL.length c7))
    clear r7 K
    go_wp2_with fail
    exact bodyPost_ret (v := .tuple #[.agg #[.bool AS, .slice a7 AL.length c7], .bool AB]) (by simp [results, Tryd.results7, go_sem, q0, q1]) rfl ⟨_, rfl, unhide R, unhide K7⟩
  rw [if_neg h43, if_neg h45] at mo
  have HN : Hid (wrN P = false) := by show _ = _; unfold wrN; rw [unhide HZ0]; exact decide_eq_false h45
  have HD : Hid (wrD P = P) := wrD_no (fun e => by rw [unhide HZ0] at e; exact e.elim h45 h43)
  refine mo.mono ?_
  rintro e w8 ⟨rfl, hw8⟩
  subst hw8
  clear mo
  go_wp2_with fail
  have n0 : Num (G + 1) w8 G (.slice none 0 0) [] := ⟨y0, yf0, World.ownsRow_nil _ _ _ _, by simp [Value.ownBlock]⟩
  have d0 : Sd w8 G false := ⟨y1, yf1⟩
  have rdd := readDigits_side rp0 kP n0 (by rw [unhide HG]; exact Nat.le_refl _) (by rw [unhide HG]; omega) (by have := kP.size; have := World.block_lt_of_cell? _ _ y0; dsimp only at this; omega) (by omega)
  refine rdd.mono ?_
  rintro e w9 ⟨rfl, dg, k9, sd9⟩
  clear rdd
  replace q0 := k9.cell0 q0P
  replace q1 := k9.cell0 q1P
  replace qf0 := k9.loose0 (World.block_lt_of_cell? _ _ q0P) qf0P
  replace qf1 := k9.loose0 (World.block_lt_of_cell? _ _ q1P) qf1P
  replace K := hide ((unhide KP).trans k9)
  clear q0P q1P qf0P qf1P KP x0 y0 y1 yf0 yf1 n0 rp 
  cases hdg : isDig P
  · clear dg k9 kP sd9 d0 rp0
    have hc : wrC bs = false := by unfold wrC; rw [unhide HP, unhide HD]; exact hdg
    have e1 : AB = false := by rw [← (unhide HA).1]; exact ansWB_no hc
    have e2 : AS = false := by rw [← (unhide HA).2.1]; exact ansWS_no hc
    have e3 : AL = [] := by rw [← (unhide HA).2.2]; exact ansWL_no hc
    subst e1 e2 e3
    clear hc hdg
    have R := hide (Row.nil .i64 true w.heap.size ((w9.setCell ⟨w.heap.size, 0, none⟩ (.bool false)).setCell ⟨w.heap.size, 1, none⟩ (.slice none 0 0)).heap.size ((w9.setCell ⟨w.heap.size, 0, none⟩ (.bool false)).setCell ⟨w.heap.size, 1, none⟩ (.slice none 0 0)))
    have K7 := hide (((unhide K).setNew (p := ⟨w.heap.size, 0, none⟩) (by simp) (.bool false)).setNew (p := ⟨w.heap.size, 1, none⟩) (by simp) (.slice none 0 0))
    clear K
    go_wp2_with fail
    exact bodyPost_ret (v := .tuple #[.agg #[.bool false, .slice none 0 0], .bool false]) (by simp [results, Tryd.results7, go_sem, q0, q1]) rfl ⟨_, rfl, unhide R, unhide K7⟩
  obtain ⟨u9, n9⟩ := dg hdg
  have hc : wrC bs = true := by unfold wrC; rw [unhide HP, unhide HD]; exact hdg
  have hX : wrX bs = wval false (limbs (digN P)) := by unfold wrX; rw [unhide HP, unhide HD, unhide HN]
  have WA := wr_ans false (digN P)
  rw [← hX] at WA
  have HA2 := unhide HA
  rw [hc] at HA2
  rw [HA2.1, HA2.2.1, HA2.2.2] at WA
  have d9 := d0.same sd9
  have z9 := k9.size
  clear hc hX hdg dg HA2 d0 sd9 k9 kP
  go_wp2_with fail
  have mo := toldSigned_impl w9 n9 d9
  rw [← WA.2.1, ← WA.1, ← WA.2.2] at mo
  clear WA
  refine (mo).mono ?_
  rintro e w4 ⟨v7, rfl, r7, k4⟩
  replace qf0 := k4.loose0 (World.block_lt_of_cell? _ _ q0) qf0
  replace qf1 := k4.loose0 (World.block_lt_of_cell? _ _ q1) qf1
  replace q0 := k4.cell0 q0
  replace q1 := k4.cell0 q1
  replace K := hide ((unhide K).trans k4)
  have z5 := k4.size
  clear k4
  clear mo n9 d9
  obtain ⟨a7, c7, hv⟩ := Row.form' r7
  subst hv
  have bX : w.heap.size < w4.heap.size := World.block_lt_of_cell? _ _ q0
  have R := hide (((r7.set_other (p := ⟨w.heap.size, 0, none⟩) (.inl (by have := unhide S0; dsimp only; omega)) (.bool AS)).set_other (p := ⟨w.heap.size, 1, none⟩) (.inl (by have := unhide S0; dsimp only; omega)) (.slice a7 AL.length c7)).tight.wider (lo' := w.heap.size) (by have := unhide S0; omega) (Nat.le_refl _))
  have K7 := hide (((unhide K).setNew (p := ⟨w.heap.size, 0, none⟩) (by simp) (.bool AS)).setNew (p := ⟨w.heap.size, 1, none⟩) (by simp) (.slice a7 AL.length c7))
  clear r7 K
  go_wp2_with fail
  exact bodyPost_ret (v := .tuple #[.agg #[.bool AS, .slice a7 AL.length c7], .bool AB]) (by simp [results, Tryd.results7, go_sem, q0, q1]) rfl ⟨_, rfl, unhide R, unhide K7⟩

end Go.Proofs.YtckolgaalkohlaaDoor
