/-
  The walk of the law FnNatPows: it returns true at every code.
-/
import Derived.Test.YtolciidbkhkfgaaDrawN6
import Derived.Test.YtolciidbkhkfgaaLawN
import Derived.Test.YtolciidbkhkfgaaINat29
import Derived.Test.YtolciidbkhkfgaaINat18
import Derived.Deep.RegionHeld3
namespace Go.Proofs.Ytolciidbkhkfgaa
open Go.RowKit
set_option linter.unusedVariables false
set_option maxRecDepth 8000
set_option linter.unusedSimpArgs false

theorem sameL_refl (zs : List Int) : sameL zs zs = true := decide_eq_true rfl
theorem pows_small : ansB (powOk (limbs (2 : Int).toNat) 3) ((val (limbs (2 : Int).toNat)).toNat ^ (3 : Int).toNat) = true ∧ ansL (powOk (limbs (2 : Int).toNat) 3) ((val (limbs (2 : Int).toNat)).toNat ^ (3 : Int).toNat) = limbs (8 : Int).toNat := by
  have h : powOk (limbs (2 : Int).toNat) 3 = true := by decide
  rw [ansB_yes h, ansL_yes h, limbs_val]
  exact ⟨by decide, by decide⟩
theorem pows_zero {xs : List Int} (h : okB xs = true) : ansB (powOk xs 0) ((val xs).toNat ^ (0 : Int).toNat) = true ∧ ansL (powOk xs 0) ((val xs).toNat ^ (0 : Int).toNat) = limbs (1 : Int).toNat := by
  have h1 := powOk_yes (k := 0) h (by omega) (by omega)
  rw [ansB_yes h1, ansL_yes h1, show (0 : Int).toNat = 0 from rfl, Nat.pow_zero]
  exact ⟨by decide, by decide⟩
/-- A power and the next one. -/
theorem pows_step {xs : List Int} {k : Int} (h : okB xs = true) (h0 : 0 < k) (h1 : k ≤ 1600) :
    (ansB (powOk xs (k - 1)) ((val xs).toNat ^ (k - 1).toNat) = true ∧
      ansL (okB (ansL (powOk xs (k - 1)) ((val xs).toNat ^ (k - 1).toNat)) && okB xs) (val (ansL (powOk xs (k - 1)) ((val xs).toNat ^ (k - 1).toNat)) * val xs).toNat = ansL (powOk xs k) ((val xs).toNat ^ k.toNat) ∧
      ansB (okB (ansL (powOk xs (k - 1)) ((val xs).toNat ^ (k - 1).toNat)) && okB xs) (val (ansL (powOk xs (k - 1)) ((val xs).toNat ^ (k - 1).toNat)) * val xs).toNat = ansB (powOk xs k) ((val xs).toNat ^ k.toNat)) ∨
    (ansB (powOk xs (k - 1)) ((val xs).toNat ^ (k - 1).toNat) = false ∧ ansB (powOk xs k) ((val xs).toNat ^ k.toNat) = false) := by
  have hn := (okB_iff xs).1 h
  have hx := val_nonneg hn.2.1
  have p0 := powOk_yes (k := k - 1) h (by omega) (by omega)
  have p1 := powOk_yes (k := k) h (by omega) h1
  obtain ⟨m, hm⟩ : ∃ m : Nat, k = ((m + 1 : Nat) : Int) := ⟨k.toNat - 1, by omega⟩
  have em : (k - 1).toNat = m := by omega
  have ek : k.toNat = m + 1 := by omega
  obtain ⟨X, hX⟩ : ∃ X : Nat, val xs = X := ⟨(val xs).toNat, by omega⟩
  rw [p0, p1, em, ek, hX, Int.toNat_natCast]
  by_cases hl : (limbs (X ^ m)).length ≤ 100
  · left
    have e0 : ansL true (X ^ m) = limbs (X ^ m) := by rw [ansL_yes rfl]; exact tell_short hl
    have e1 : okB (limbs (X ^ m)) = true := (okB_iff _).2 ⟨hl, limbs_nrm _⟩
    rw [e0, e1, h, limbs_val, ← Int.natCast_mul, Int.toNat_natCast, ← Nat.pow_succ]
    exact ⟨by rw [ansB_yes rfl]; exact decide_eq_true hl, rfl, rfl⟩
  · right
    refine ⟨by rw [ansB_yes rfl]; exact decide_eq_false hl, ?_⟩
    rw [ansB_yes rfl]
    refine decide_eq_false ?_
    have hm0 : 0 < m := by
      rcases Nat.eq_zero_or_pos m with h0 | h0
      · subst h0
        exact absurd (by rw [Nat.pow_zero]; decide) hl
      · exact h0
    have := pow_long (X := X) (i := m) (k := m + 1) (by omega) hm0 (by omega)
    omega

set_option maxHeartbeats 8000000 in
theorem law_NatPows {v : Value} {zs : List Int} {w : World} (r : Row .u8 false 0 w.heap.size w v zs) (hb0 : ∀ z ∈ zs, (Lit.int .u8 z).wf = true) :
    Calls Try.prog 8 #[v] w fun e w' => e = .returned (.bool true) ∧ Below w.heap.size w w' := by
  have hb := bytes_of_wf hb0
  clear hb0
  obtain ⟨a0, d0, hv⟩ := Row.form' r
  subst hv
  have hB := hide hb
  clear hb
  have B := hide (Below.refl w.heap.size w)
  have s0 : w.heap.size ≤ w.heap.size := Nat.le_refl _
  go_enter Try.func8, Try.ntmps8
  go_wp2_with fail
  refine (drawPow_any _ r (unhide hB)).mono ?_
  rintro e w11 ⟨v1, k, rfl, hk, ⟨xs, ra⟩, k11⟩
  replace r := r.kept k11 (by omega)
  have s11 := k11.size
  replace B := hide (below_step (unhide B) k11 (Nat.le_refl _) (by omega))
  clear k11
  clear r
  obtain ⟨a1, d1, ev1⟩ := Row.form' ra
  subst ev1
  have k12 := (Kept.refl 0 0 w11).alloc (.cells #[.slice a1 xs.length d1] 26)
  have cA : (w11.alloc (.cells #[.slice a1 xs.length d1] 26)).cell? ⟨w11.heap.size, 0, none⟩ = some (.slice a1 xs.length d1) := new_cell_at _ _ _ _ (by simp)
  replace ra := ra.kept k12 (by omega)
  have s12 := k12.size
  replace B := hide (below_step (unhide B) k12 (Nat.le_refl _) (by omega))
  clear k12
  go_wp2_with fail
  generalize (w11.alloc (.cells #[.slice a1 xs.length d1] 26)) = W3 at *
  generalize w11.heap.size = gA at *
  refine (natPow_impl _ ra k (by omega) (by omega)).mono ?_
  rintro e w13 ⟨v5, rfl, r5, k13⟩
  replace ra := ra.kept k13 (by omega)
  replace cA := k13.cell0 cA
  have s13 := k13.size
  replace B := hide (below_step (unhide B) k13 (Nat.le_refl _) (by omega))
  clear k13
  obtain ⟨BP, hBP⟩ : ∃ BP, BP = ansB (powOk xs k) ((val xs).toNat ^ k.toNat) := ⟨_, rfl⟩
  rw [← hBP]
  obtain ⟨LP, hLP⟩ : ∃ LP, LP = ansL (powOk xs k) ((val xs).toNat ^ k.toNat) := ⟨_, rfl⟩
  rw [← hLP] at r5
  have HBP := hide hBP
  have HLP := hide hLP
  clear hBP hLP
  obtain ⟨a5, d5, ev5⟩ := Row.form' r5
  subst ev5
  have k14 := (Kept.refl 0 0 w13).alloc (.cells #[.slice a5 LP.length d5] 26)
  have cP : (w13.alloc (.cells #[.slice a5 LP.length d5] 26)).cell? ⟨w13.heap.size, 0, none⟩ = some (.slice a5 LP.length d5) := new_cell_at _ _ _ _ (by simp)
  replace ra := ra.kept k14 (by omega)
  replace r5 := r5.kept k14 (by omega)
  replace cA := k14.cell0 cA
  have s14 := k14.size
  replace B := hide (below_step (unhide B) k14 (Nat.le_refl _) (by omega))
  clear k14
  go_wp2_with fail
  generalize (w13.alloc (.cells #[.slice a5 LP.length d5] 26)) = W6 at *
  generalize w13.heap.size = gP at *
  refine (ok_spec _ ra).mono ?_
  rintro e w15 ⟨rfl, k15⟩
  replace ra := ra.kept k15 (by omega)
  replace r5 := r5.kept k15 (by omega)
  replace cA := k15.cell0 cA
  replace cP := k15.cell0 cP
  have s15 := k15.size
  replace B := hide (below_step (unhide B) k15 (Nat.le_refl _) (by omega))
  clear k15
  cases hok1 : okB xs
  · have E0 := powOk_bad (k := k) hok1
    clear hok1
    obtain rfl : BP = false := by rw [unhide HBP]; exact ansB_no (E0)
    go_wp2_with fail
    refine (nat_any _ 2 (by decide)).mono ?_
    rintro e w16 ⟨v2', rfl, r2', k16⟩
    replace ra := ra.kept k16 (by omega)
    replace r5 := r5.kept k16 (by omega)
    replace cA := k16.cell0 cA
    replace cP := k16.cell0 cP
    have s16 := k16.size
    replace B := hide (below_step (unhide B) k16 (Nat.le_refl _) (by omega))
    clear k16
    go_wp2_with fail
    refine (natPow_impl _ r2' 3 (by decide) (by decide)).mono ?_
    rintro e w17 ⟨v3', rfl, r3', k17⟩
    replace ra := ra.kept k17 (by omega)
    replace r5 := r5.kept k17 (by omega)
    replace r2' := r2'.kept k17 (by omega)
    replace cA := k17.cell0 cA
    replace cP := k17.cell0 cP
    have s17 := k17.size
    replace B := hide (below_step (unhide B) k17 (Nat.le_refl _) (by omega))
    clear k17
    rw [pows_small.1]
    rw [pows_small.2] at r3'
    generalize hL8 : limbs (8 : Int).toNat = L8 at r3'
    have HL8 := hide hL8
    clear hL8
    obtain ⟨a3', d3', ev3⟩ := Row.form' r3'
    subst ev3
    have k18 := (Kept.refl 0 0 w17).alloc (.cells #[.slice a3' L8.length d3'] 26)
    have cQ : (w17.alloc (.cells #[.slice a3' L8.length d3'] 26)).cell? ⟨w17.heap.size, 0, none⟩ = some (.slice a3' L8.length d3') := new_cell_at _ _ _ _ (by simp)
    replace ra := ra.kept k18 (by omega)
    replace r5 := r5.kept k18 (by omega)
    replace r2' := r2'.kept k18 (by omega)
    replace r3' := r3'.kept k18 (by omega)
    replace cA := k18.cell0 cA
    replace cP := k18.cell0 cP
    have s18 := k18.size
    replace B := hide (below_step (unhide B) k18 (Nat.le_refl _) (by omega))
    clear k18
    go_wp2_with fail
    generalize (w17.alloc (.cells #[.slice a3' L8.length d3'] 26)) = W9 at *
    generalize w17.heap.size = gQ at *
    go_region_held3 (fun w' => w'.cell? ⟨gQ, 0, none⟩ = some (.slice a3' L8.length d3')) (first | exact cQ | exact k91.cell0 cQ | exact k92.cell0 (k91.cell0 cQ))
      ((first
        | (go_at_call 38
           refine (nat_any _ 8 (by decide)).mono ?_
           rintro e w91 ⟨v8, rfl, r8, k91⟩
           rw [unhide HL8] at r8)
        | (go_at_call 32
           refine (sameNat_any _ (r3'.kept ((Kept.refl 0 0 _).drew.trans k91) (Or.inr (Or.inr (Nat.le_refl _)))) r8).mono ?_
           rintro e w92 ⟨rfl, k92⟩)))
    replace B := hide (below_step (unhide B) ((Kept.refl 0 0 W9).drew.trans (k91.trans k92)) (Nat.le_refl _) (by omega))
    rw [sameL_refl]
    go_wp2_with fail
    go_ret
    exact ⟨rfl, unhide B⟩
  have HK1 := hide hok1
  clear hok1
  by_cases hneg : k < 0
  · have E0 := powOk_neg (xs := xs) hneg
    obtain rfl : BP = false := by rw [unhide HBP]; exact ansB_no (E0)
    go_wp2_with fail
    refine (nat_any _ 2 (by decide)).mono ?_
    rintro e w16 ⟨v2', rfl, r2', k16⟩
    replace ra := ra.kept k16 (by omega)
    replace r5 := r5.kept k16 (by omega)
    replace cA := k16.cell0 cA
    replace cP := k16.cell0 cP
    have s16 := k16.size
    replace B := hide (below_step (unhide B) k16 (Nat.le_refl _) (by omega))
    clear k16
    go_wp2_with fail
    refine (natPow_impl _ r2' 3 (by decide) (by decide)).mono ?_
    rintro e w17 ⟨v3', rfl, r3', k17⟩
    replace ra := ra.kept k17 (by omega)
    replace r5 := r5.kept k17 (by omega)
    replace r2' := r2'.kept k17 (by omega)
    replace cA := k17.cell0 cA
    replace cP := k17.cell0 cP
    have s17 := k17.size
    replace B := hide (below_step (unhide B) k17 (Nat.le_refl _) (by omega))
    clear k17
    rw [pows_small.1]
    rw [pows_small.2] at r3'
    generalize hL8 : limbs (8 : Int).toNat = L8 at r3'
    have HL8 := hide hL8
    clear hL8
    obtain ⟨a3', d3', ev3⟩ := Row.form' r3'
    subst ev3
    have k18 := (Kept.refl 0 0 w17).alloc (.cells #[.slice a3' L8.length d3'] 26)
    have cQ : (w17.alloc (.cells #[.slice a3' L8.length d3'] 26)).cell? ⟨w17.heap.size, 0, none⟩ = some (.slice a3' L8.length d3') := new_cell_at _ _ _ _ (by simp)
    replace ra := ra.kept k18 (by omega)
    replace r5 := r5.kept k18 (by omega)
    replace r2' := r2'.kept k18 (by omega)
    replace r3' := r3'.kept k18 (by omega)
    replace cA := k18.cell0 cA
    replace cP := k18.cell0 cP
    have s18 := k18.size
    replace B := hide (below_step (unhide B) k18 (Nat.le_refl _) (by omega))
    clear k18
    go_wp2_with fail
    generalize (w17.alloc (.cells #[.slice a3' L8.length d3'] 26)) = W9 at *
    generalize w17.heap.size = gQ at *
    go_region_held3 (fun w' => w'.cell? ⟨gQ, 0, none⟩ = some (.slice a3' L8.length d3')) (first | exact cQ | exact k91.cell0 cQ | exact k92.cell0 (k91.cell0 cQ))
      ((first
        | (go_at_call 38
           refine (nat_any _ 8 (by decide)).mono ?_
           rintro e w91 ⟨v8, rfl, r8, k91⟩
           rw [unhide HL8] at r8)
        | (go_at_call 32
           refine (sameNat_any _ (r3'.kept ((Kept.refl 0 0 _).drew.trans k91) (Or.inr (Or.inr (Nat.le_refl _)))) r8).mono ?_
           rintro e w92 ⟨rfl, k92⟩)))
    replace B := hide (below_step (unhide B) ((Kept.refl 0 0 W9).drew.trans (k91.trans k92)) (Nat.le_refl _) (by omega))
    rw [sameL_refl]
    go_wp2_with fail
    go_ret
    exact ⟨rfl, unhide B⟩
  by_cases hbig : 1600 < k
  · have E0 := powOk_big (xs := xs) hbig
    obtain rfl : BP = false := by rw [unhide HBP]; exact ansB_no (E0)
    go_wp2_with fail
    refine (nat_any _ 2 (by decide)).mono ?_
    rintro e w16 ⟨v2', rfl, r2', k16⟩
    replace ra := ra.kept k16 (by omega)
    replace r5 := r5.kept k16 (by omega)
    replace cA := k16.cell0 cA
    replace cP := k16.cell0 cP
    have s16 := k16.size
    replace B := hide (below_step (unhide B) k16 (Nat.le_refl _) (by omega))
    clear k16
    go_wp2_with fail
    refine (natPow_impl _ r2' 3 (by decide) (by decide)).mono ?_
    rintro e w17 ⟨v3', rfl, r3', k17⟩
    replace ra := ra.kept k17 (by omega)
    replace r5 := r5.kept k17 (by omega)
    replace r2' := r2'.kept k17 (by omega)
    replace cA := k17.cell0 cA
    replace cP := k17.cell0 cP
    have s17 := k17.size
    replace B := hide (below_step (unhide B) k17 (Nat.le_refl _) (by omega))
    clear k17
    rw [pows_small.1]
    rw [pows_small.2] at r3'
    generalize hL8 : limbs (8 : Int).toNat = L8 at r3'
    have HL8 := hide hL8
    clear hL8
    obtain ⟨a3', d3', ev3⟩ := Row.form' r3'
    subst ev3
    have k18 := (Kept.refl 0 0 w17).alloc (.cells #[.slice a3' L8.length d3'] 26)
    have cQ : (w17.alloc (.cells #[.slice a3' L8.length d3'] 26)).cell? ⟨w17.heap.size, 0, none⟩ = some (.slice a3' L8.length d3') := new_cell_at _ _ _ _ (by simp)
    replace ra := ra.kept k18 (by omega)
    replace r5 := r5.kept k18 (by omega)
    replace r2' := r2'.kept k18 (by omega)
    replace r3' := r3'.kept k18 (by omega)
    replace cA := k18.cell0 cA
    replace cP := k18.cell0 cP
    have s18 := k18.size
    replace B := hide (below_step (unhide B) k18 (Nat.le_refl _) (by omega))
    clear k18
    go_wp2_with fail
    generalize (w17.alloc (.cells #[.slice a3' L8.length d3'] 26)) = W9 at *
    generalize w17.heap.size = gQ at *
    go_region_held3 (fun w' => w'.cell? ⟨gQ, 0, none⟩ = some (.slice a3' L8.length d3')) (first | exact cQ | exact k91.cell0 cQ | exact k92.cell0 (k91.cell0 cQ))
      ((first
        | (go_at_call 38
           refine (nat_any _ 8 (by decide)).mono ?_
           rintro e w91 ⟨v8, rfl, r8, k91⟩
           rw [unhide HL8] at r8)
        | (go_at_call 32
           refine (sameNat_any _ (r3'.kept ((Kept.refl 0 0 _).drew.trans k91) (Or.inr (Or.inr (Nat.le_refl _)))) r8).mono ?_
           rintro e w92 ⟨rfl, k92⟩)))
    replace B := hide (below_step (unhide B) ((Kept.refl 0 0 W9).drew.trans (k91.trans k92)) (Nat.le_refl _) (by omega))
    rw [sameL_refl]
    go_wp2_with fail
    go_ret
    exact ⟨rfl, unhide B⟩
  by_cases hz : k = 0
  · subst hz
    have HZ := hide (pows_zero (unhide HK1))
    obtain rfl : BP = true := (unhide HBP).trans (unhide HZ).1
    have hL1 : LP = limbs (1 : Int).toNat := (unhide HLP).trans (unhide HZ).2
    have HL1 := hide hL1
    clear hL1
    go_wp2_with fail
    go_region_held3 (fun w' => w'.cell? ⟨gP, 0, none⟩ = some (.slice a5 LP.length d5)) (first | exact cP | exact k91.cell0 cP | exact k92.cell0 (k91.cell0 cP))
      ((first
        | (go_at_call 38
           refine (nat_any _ 1 (by decide)).mono ?_
           rintro e w91 ⟨v8, rfl, r8, k91⟩
           rw [← unhide HL1] at r8)
        | (go_at_call 32
           refine (sameNat_any _ (r5.kept ((Kept.refl 0 0 _).drew.trans k91) (Or.inr (Or.inr (Nat.le_refl _)))) r8).mono ?_
           rintro e w92 ⟨rfl, k92⟩)))
    replace B := hide (below_step (unhide B) ((Kept.refl 0 0 w15).drew.trans (k91.trans k92)) (Nat.le_refl _) (by omega))
    rw [sameL_refl]
    go_wp2_with fail
    go_ret
    exact ⟨rfl, unhide B⟩
  have hzb : (k == 0) = false := beq_eq_false_iff_ne.2 hz
  have HST := hide (pows_step (k := k) (unhide HK1) (by omega) (by omega))
  rw [← unhide HBP, ← unhide HLP] at HST
  go_wp2_with fail
  refine (natPow_impl _ ra (k - 1) (by omega) (by omega)).mono ?_
  rintro e w16 ⟨v6, rfl, r6, k16⟩
  replace ra := ra.kept k16 (by omega)
  replace r5 := r5.kept k16 (by omega)
  replace cA := k16.cell0 cA
  replace cP := k16.cell0 cP
  have s16 := k16.size
  replace B := hide (below_step (unhide B) k16 (Nat.le_refl _) (by omega))
  clear k16
  generalize hBF : ansB (powOk xs (k - 1)) ((val xs).toNat ^ (k - 1).toNat) = BF at *
  generalize hLF : ansL (powOk xs (k - 1)) ((val xs).toNat ^ (k - 1).toNat) = LF at *
  clear hBF hLF
  obtain ⟨a6, d6, ev6⟩ := Row.form' r6
  subst ev6
  have k17 := (Kept.refl 0 0 w16).alloc (.cells #[.slice a6 LF.length d6] 26)
  have cY : (w16.alloc (.cells #[.slice a6 LF.length d6] 26)).cell? ⟨w16.heap.size, 0, none⟩ = some (.slice a6 LF.length d6) := new_cell_at _ _ _ _ (by simp)
  replace ra := ra.kept k17 (by omega)
  replace r5 := r5.kept k17 (by omega)
  replace r6 := r6.kept k17 (by omega)
  replace cA := k17.cell0 cA
  replace cP := k17.cell0 cP
  have s17 := k17.size
  replace B := hide (below_step (unhide B) k17 (Nat.le_refl _) (by omega))
  clear k17
  go_wp2_with fail
  generalize (w16.alloc (.cells #[.slice a6 LF.length d6] 26)) = W7 at *
  refine (natMul_impl _ r6 ra).mono ?_
  rintro e w18 ⟨v7, rfl, r7, k18⟩
  replace ra := ra.kept k18 (by omega)
  replace r5 := r5.kept k18 (by omega)
  replace r6 := r6.kept k18 (by omega)
  replace cA := k18.cell0 cA
  replace cP := k18.cell0 cP
  replace cY := k18.cell0 cY
  have s18 := k18.size
  replace B := hide (below_step (unhide B) k18 (Nat.le_refl _) (by omega))
  clear k18
  generalize hBG : ansB (okB LF && okB xs) (val LF * val xs).toNat = BG at *
  generalize hLG : ansL (okB LF && okB xs) (val LF * val xs).toNat = LG at *
  clear hBG hLG
  obtain ⟨a7, d7, ev7⟩ := Row.form' r7
  subst ev7
  have k19 := (Kept.refl 0 0 w18).alloc (.cells #[.slice a7 LG.length d7] 26)
  have cZ : (w18.alloc (.cells #[.slice a7 LG.length d7] 26)).cell? ⟨w18.heap.size, 0, none⟩ = some (.slice a7 LG.length d7) := new_cell_at _ _ _ _ (by simp)
  replace ra := ra.kept k19 (by omega)
  replace r5 := r5.kept k19 (by omega)
  replace r6 := r6.kept k19 (by omega)
  replace r7 := r7.kept k19 (by omega)
  replace cA := k19.cell0 cA
  replace cP := k19.cell0 cP
  replace cY := k19.cell0 cY
  have s19 := k19.size
  replace B := hide (below_step (unhide B) k19 (Nat.le_refl _) (by omega))
  clear k19
  rcases unhide HST with ⟨e1, e2, e3⟩ | ⟨e1, e2⟩
  · subst e1 e2 e3
    clear HST HBP HLP
    cases BG
    · clear ra r5 r6 r7 cA cP cY cZ
      go_wp2_with fail
      go_ret
      exact ⟨rfl, unhide B⟩
    · go_wp2_with fail
      refine (sameNat_any _ r7 r5).mono ?_
      rintro e w99 ⟨rfl, k99⟩
      rw [sameL_refl]
      replace B := hide (below_step (unhide B) k99 (Nat.le_refl _) (by omega))
      clear ra r5 r6 r7 cA cP cY cZ k99
      go_wp2_with fail
      go_ret
      exact ⟨rfl, unhide B⟩
  · subst e1 e2
    clear HST HBP HLP ra r5 r6 r7 cA cP cY cZ
    go_wp2_with fail
    go_ret
    exact ⟨rfl, unhide B⟩

end Go.Proofs.Ytolciidbkhkfgaa
