/-
  The walk of the law FnNatOrder: it returns true at every code.
-/
import Derived.Test.YtdlpkppkmfjdiaaDrawN5
import Derived.Test.YtdlpkppkmfjdiaaLawN
import Derived.Test.YtdlpkppkmfjdiaaINat8
import Derived.Test.YtdlpkppkmfjdiaaINat10
import Derived.Test.YtdlpkppkmfjdiaaINat16
namespace Go.Proofs.Ytdlpkppkmfjdiaa
open Go.RowKit
set_option linter.unusedVariables false
set_option maxRecDepth 8000
set_option linter.unusedSimpArgs false

theorem okB_smallInt (x : Int) (h1 : x ≤ 9223372036854775807) : okB (limbs x.toNat) = true := (okB_iff _).2 ⟨by have := limbs_int_length x h1; omega, limbs_nrm _⟩
theorem order_small : cmpN (limbs (2 : Int).toNat) (limbs (1 : Int).toNat) = 1 := by
  rw [cmpN_ok (okB_smallInt 2 (by decide)) (okB_smallInt 1 (by decide)), limbs_val, limbs_val]; decide
theorem order_nums {x y : Int} (hx : 0 ≤ x ∧ x ≤ 255) (hy : 0 ≤ y ∧ y ≤ 255) : cmpN (limbs x.toNat) (limbs y.toNat) = cmpI x y := by
  rw [cmpN_ok (okB_smallInt x (by omega)) (okB_smallInt y (by omega)), limbs_val, limbs_val, Int.toNat_of_nonneg hx.1, Int.toNat_of_nonneg hy.1]
theorem order_int {x : Int} (hx : 0 ≤ x ∧ x ≤ 255) : fitsI (limbs x.toNat) = true ∧ intN (limbs x.toNat) = x := by
  have h : fitsI (limbs x.toNat) = true := by
    unfold fitsI
    rw [okB_smallInt x (by omega), limbs_val]
    simp
    omega
  exact ⟨h, by rw [intN_ok h, limbs_val, Int.toNat_of_nonneg hx.1]⟩
/-- What two numbers are to one another, three ways. -/
theorem order_ways {xs ys : List Int} (h1 : okB xs = true) (h2 : okB ys = true) :
    (cmpN xs ys = -1 ∧ cmpN ys xs = 1 ∧ sameL xs ys = false ∧ ansB (okB xs && okB ys && decide (val ys ≤ val xs)) (val xs - val ys).toNat = false) ∨
    (cmpN xs ys = 0 ∧ cmpN ys xs = 0 ∧ sameL xs ys = true ∧ ansB (okB xs && okB ys && decide (val ys ≤ val xs)) (val xs - val ys).toNat = true) ∨
    (cmpN xs ys = 1 ∧ cmpN ys xs = -1 ∧ sameL xs ys = false ∧ ansB (okB xs && okB ys && decide (val ys ≤ val xs)) (val xs - val ys).toNat = true) := by
  have n1 := (okB_iff xs).1 h1
  have n2 := (okB_iff ys).1 h2
  rw [cmpN_ok h1 h2, cmpN_ok h2 h1, h1, h2]
  have hs := sub_short n1.2.1 n2.2.1 n1.1
  have hne : val xs ≠ val ys → sameL xs ys = false := fun h => decide_eq_false (fun e => h (by rw [e]))
  rcases Int.lt_trichotomy (val xs) (val ys) with h | h | h
  · refine .inl ⟨cmpI_lt h, cmpI_gt h, hne (by omega), ansB_no (by simp; omega)⟩
  · refine .inr (.inl ⟨cmpI_eq h, cmpI_eq h.symm, decide_eq_true (nrm_unique n1.2 n2.2 h), ?_⟩)
    rw [ansB_yes (by simp; omega)]
    exact decide_eq_true hs
  · refine .inr (.inr ⟨cmpI_gt h, cmpI_lt h, hne (by omega), ?_⟩)
    rw [ansB_yes (by simp; omega)]
    exact decide_eq_true hs

set_option maxHeartbeats 8000000 in
theorem law_NatOrder {v : Value} {zs : List Int} {w : World} (r : Row .u8 false 0 w.heap.size w v zs) (hb0 : ∀ z ∈ zs, (Lit.int .u8 z).wf = true) :
    Calls Try.prog 4 #[v] w fun e w' => e = .returned (.bool true) ∧ Below w.heap.size w w' := by
  have hb := bytes_of_wf hb0
  clear hb0
  obtain ⟨a0, d0, hv⟩ := Row.form' r
  subst hv
  have hB := hide hb
  clear hb
  have B := hide (Below.refl w.heap.size w)
  have s0 : w.heap.size ≤ w.heap.size := Nat.le_refl _
  go_enter Try.func4, Try.ntmps4
  go_wp2_with fail
  refine (drawCmp_any _ r (unhide hB)).mono ?_
  rintro e w11 ⟨v1, v2, rfl, ⟨xs, ra⟩, ⟨ys, rb⟩, k11⟩
  replace r := r.kept k11 (by omega)
  have s11 := k11.size
  replace B := hide (below_step (unhide B) k11 (Nat.le_refl _) (by omega))
  clear k11
  obtain ⟨a1, d1, ev1⟩ := Row.form' ra
  subst ev1
  obtain ⟨a2, d2, ev2⟩ := Row.form' rb
  subst ev2
  have k12 := (Kept.refl 0 0 w11).alloc (.cells #[.slice a1 xs.length d1] 26)
  have cA : (w11.alloc (.cells #[.slice a1 xs.length d1] 26)).cell? ⟨w11.heap.size, 0, none⟩ = some (.slice a1 xs.length d1) := new_cell_at _ _ _ _ (by simp)
  replace r := r.kept k12 (by omega)
  replace ra := ra.kept k12 (by omega)
  replace rb := rb.kept k12 (by omega)
  have s12 := k12.size
  replace B := hide (below_step (unhide B) k12 (Nat.le_refl _) (by omega))
  clear k12
  have k13 := (Kept.refl 0 0 (w11.alloc (.cells #[.slice a1 xs.length d1] 26))).alloc (.cells #[.slice a2 ys.length d2] 26)
  have cB : ((w11.alloc (.cells #[.slice a1 xs.length d1] 26)).alloc (.cells #[.slice a2 ys.length d2] 26)).cell? ⟨w11.heap.size + 1, 0, none⟩ = some (.slice a2 ys.length d2) := new_cell_at _ _ _ _ (by simp)
  replace r := r.kept k13 (by omega)
  replace ra := ra.kept k13 (by omega)
  replace rb := rb.kept k13 (by omega)
  replace cA := k13.cell0 cA
  have s13 := k13.size
  replace B := hide (below_step (unhide B) k13 (Nat.le_refl _) (by omega))
  clear k13
  go_wp2_with fail
  generalize ((w11.alloc (.cells #[.slice a1 xs.length d1] 26)).alloc (.cells #[.slice a2 ys.length d2] 26)) = W3 at *
  generalize w11.heap.size = gA at *
  obtain ⟨C, hC⟩ : ∃ C, C = cmpN xs ys := ⟨_, rfl⟩
  refine (natCmp_impl _ ra rb).mono ?_
  rintro e w14 ⟨rfl, k14⟩
  replace r := r.kept k14 (by omega)
  replace ra := ra.kept k14 (by omega)
  replace rb := rb.kept k14 (by omega)
  replace cA := k14.cell0 cA
  replace cB := k14.cell0 cB
  have s14 := k14.size
  replace B := hide (below_step (unhide B) k14 (Nat.le_refl _) (by omega))
  clear k14
  rw [← hC]
  have HC := hide hC
  clear hC
  go_wp2_with fail
  refine (ok_spec _ ra).mono ?_
  rintro e w15 ⟨rfl, k15⟩
  replace r := r.kept k15 (by omega)
  replace ra := ra.kept k15 (by omega)
  replace rb := rb.kept k15 (by omega)
  replace cA := k15.cell0 cA
  replace cB := k15.cell0 cB
  have s15 := k15.size
  replace B := hide (below_step (unhide B) k15 (Nat.le_refl _) (by omega))
  clear k15
  cases hok1 : okB xs
  · skip
    have hC0 : C = 0 := by rw [unhide HC]; exact cmpN_bad1 hok1
    subst hC0
    clear hok1
    go_wp2_with fail
    refine (nat_any _ 2 (by decide)).mono ?_
    rintro e w16 ⟨v2', rfl, r2', k16⟩
    replace r := r.kept k16 (by omega)
    replace ra := ra.kept k16 (by omega)
    replace rb := rb.kept k16 (by omega)
    replace cA := k16.cell0 cA
    replace cB := k16.cell0 cB
    have s16 := k16.size
    replace B := hide (below_step (unhide B) k16 (Nat.le_refl _) (by omega))
    clear k16
    go_wp2_with fail
    refine (nat_any _ 1 (by decide)).mono ?_
    rintro e w17 ⟨v1', rfl, r1', k17⟩
    replace r := r.kept k17 (by omega)
    replace ra := ra.kept k17 (by omega)
    replace rb := rb.kept k17 (by omega)
    replace r2' := r2'.kept k17 (by omega)
    replace cA := k17.cell0 cA
    replace cB := k17.cell0 cB
    have s17 := k17.size
    replace B := hide (below_step (unhide B) k17 (Nat.le_refl _) (by omega))
    clear k17
    go_wp2_with fail
    refine (natCmp_impl _ r2' r1').mono ?_
    rintro e w18 ⟨rfl, k18⟩
    replace r := r.kept k18 (by omega)
    replace ra := ra.kept k18 (by omega)
    replace rb := rb.kept k18 (by omega)
    replace r2' := r2'.kept k18 (by omega)
    replace r1' := r1'.kept k18 (by omega)
    replace cA := k18.cell0 cA
    replace cB := k18.cell0 cB
    have s18 := k18.size
    replace B := hide (below_step (unhide B) k18 (Nat.le_refl _) (by omega))
    clear k18
    rw [order_small]
    go_wp2_with fail
    go_ret
    exact ⟨rfl, unhide B⟩
  have HK1 := hide hok1
  clear hok1
  go_wp2_with fail
  refine (ok_spec _ rb).mono ?_
  rintro e w16 ⟨rfl, k16⟩
  replace r := r.kept k16 (by omega)
  replace ra := ra.kept k16 (by omega)
  replace rb := rb.kept k16 (by omega)
  replace cA := k16.cell0 cA
  replace cB := k16.cell0 cB
  have s16 := k16.size
  replace B := hide (below_step (unhide B) k16 (Nat.le_refl _) (by omega))
  clear k16
  cases hok2 : okB ys
  · skip
    have hC0 : C = 0 := by rw [unhide HC]; exact cmpN_bad2 hok2
    subst hC0
    clear hok2
    go_wp2_with fail
    refine (nat_any _ 2 (by decide)).mono ?_
    rintro e w17 ⟨v2', rfl, r2', k17⟩
    replace r := r.kept k17 (by omega)
    replace ra := ra.kept k17 (by omega)
    replace rb := rb.kept k17 (by omega)
    replace cA := k17.cell0 cA
    replace cB := k17.cell0 cB
    have s17 := k17.size
    replace B := hide (below_step (unhide B) k17 (Nat.le_refl _) (by omega))
    clear k17
    go_wp2_with fail
    refine (nat_any _ 1 (by decide)).mono ?_
    rintro e w18 ⟨v1', rfl, r1', k18⟩
    replace r := r.kept k18 (by omega)
    replace ra := ra.kept k18 (by omega)
    replace rb := rb.kept k18 (by omega)
    replace r2' := r2'.kept k18 (by omega)
    replace cA := k18.cell0 cA
    replace cB := k18.cell0 cB
    have s18 := k18.size
    replace B := hide (below_step (unhide B) k18 (Nat.le_refl _) (by omega))
    clear k18
    go_wp2_with fail
    refine (natCmp_impl _ r2' r1').mono ?_
    rintro e w19 ⟨rfl, k19⟩
    replace r := r.kept k19 (by omega)
    replace ra := ra.kept k19 (by omega)
    replace rb := rb.kept k19 (by omega)
    replace r2' := r2'.kept k19 (by omega)
    replace r1' := r1'.kept k19 (by omega)
    replace cA := k19.cell0 cA
    replace cB := k19.cell0 cB
    have s19 := k19.size
    replace B := hide (below_step (unhide B) k19 (Nat.le_refl _) (by omega))
    clear k19
    rw [order_small]
    go_wp2_with fail
    go_ret
    exact ⟨rfl, unhide B⟩
  have HW := hide (order_ways (unhide HK1) hok2)
  clear hok2 
  go_wp2_with fail
  refine (natSub_impl _ ra rb).mono ?_
  rintro e w17 ⟨v5, rfl, r5, k17⟩
  replace r := r.kept k17 (by omega)
  replace ra := ra.kept k17 (by omega)
  replace rb := rb.kept k17 (by omega)
  replace cA := k17.cell0 cA
  replace cB := k17.cell0 cB
  have s17 := k17.size
  replace B := hide (below_step (unhide B) k17 (Nat.le_refl _) (by omega))
  clear k17
  have r5' := r5
  obtain ⟨a5, d5, ev5⟩ := Row.form' r5
  subst ev5
  generalize hBS : ansB (okB xs && okB ys && decide (val ys ≤ val xs)) (val xs - val ys).toNat = BS at *
  generalize ansL (okB xs && okB ys && decide (val ys ≤ val xs)) (val xs - val ys).toNat = LS at *
  have HBS := hide hBS
  clear hBS r5 r5'
  have k18 := (Kept.refl 0 0 w17).alloc (.cells #[.slice a5 LS.length d5] 26)
  have cS : (w17.alloc (.cells #[.slice a5 LS.length d5] 26)).cell? ⟨w17.heap.size, 0, none⟩ = some (.slice a5 LS.length d5) := new_cell_at _ _ _ _ (by simp)
  replace r := r.kept k18 (by omega)
  replace ra := ra.kept k18 (by omega)
  replace rb := rb.kept k18 (by omega)
  replace cA := k18.cell0 cA
  replace cB := k18.cell0 cB
  have s18 := k18.size
  replace B := hide (below_step (unhide B) k18 (Nat.le_refl _) (by omega))
  clear k18
  go_wp2_with fail
  generalize (w17.alloc (.cells #[.slice a5 LS.length d5] 26)) = W6 at *
  refine (at_any _ r (unhide hB) 1 (by omega)).mono ?_
  rintro e w19 ⟨x, rfl, hx0, hx1, k19⟩
  replace r := r.kept k19 (by omega)
  replace ra := ra.kept k19 (by omega)
  replace rb := rb.kept k19 (by omega)
  replace cA := k19.cell0 cA
  replace cB := k19.cell0 cB
  replace cS := k19.cell0 cS
  have s19 := k19.size
  replace B := hide (below_step (unhide B) k19 (Nat.le_refl _) (by omega))
  clear k19
  go_wp2_with fail
  refine (at_any _ r (unhide hB) 2 (by omega)).mono ?_
  rintro e w20 ⟨y, rfl, hy0, hy1, k20⟩
  replace r := r.kept k20 (by omega)
  replace ra := ra.kept k20 (by omega)
  replace rb := rb.kept k20 (by omega)
  replace cA := k20.cell0 cA
  replace cB := k20.cell0 cB
  replace cS := k20.cell0 cS
  have s20 := k20.size
  replace B := hide (below_step (unhide B) k20 (Nat.le_refl _) (by omega))
  clear k20
  go_wp2_with fail
  refine (natOf_impl _ x (by omega)).mono ?_
  rintro e w21 ⟨v7, rfl, r7, k21⟩
  replace r := r.kept k21 (by omega)
  replace ra := ra.kept k21 (by omega)
  replace rb := rb.kept k21 (by omega)
  replace cA := k21.cell0 cA
  replace cB := k21.cell0 cB
  replace cS := k21.cell0 cS
  have s21 := k21.size
  replace B := hide (below_step (unhide B) k21 (Nat.le_refl _) (by omega))
  clear k21
  rw [decide_eq_true hx0]
  have hIN := order_int ⟨hx0, hx1⟩
  have hNUM := order_nums ⟨hx0, hx1⟩ ⟨hy0, hy1⟩
  have HNUM' : Hid (cmpN (limbs x.toNat) (limbs y.toNat) = cmpI x y) := hNUM
  generalize hLX : limbs x.toNat = LX at hIN r7
  clear hLX
  obtain ⟨a7, d7, ev7⟩ := Row.form' r7
  subst ev7
  have k22 := (Kept.refl 0 0 w21).alloc (.cells #[.slice a7 LX.length d7] 26)
  have cX : (w21.alloc (.cells #[.slice a7 LX.length d7] 26)).cell? ⟨w21.heap.size, 0, none⟩ = some (.slice a7 LX.length d7) := new_cell_at _ _ _ _ (by simp)
  replace r := r.kept k22 (by omega)
  replace ra := ra.kept k22 (by omega)
  replace rb := rb.kept k22 (by omega)
  replace r7 := r7.kept k22 (by omega)
  replace cA := k22.cell0 cA
  replace cB := k22.cell0 cB
  replace cS := k22.cell0 cS
  have s22 := k22.size
  replace B := hide (below_step (unhide B) k22 (Nat.le_refl _) (by omega))
  clear k22
  go_wp2_with fail
  generalize (w21.alloc (.cells #[.slice a7 LX.length d7] 26)) = W8 at *
  refine (natInt_impl _ r7).mono ?_
  rintro e w23 ⟨rfl, k23⟩
  replace r := r.kept k23 (by omega)
  replace ra := ra.kept k23 (by omega)
  replace rb := rb.kept k23 (by omega)
  replace r7 := r7.kept k23 (by omega)
  replace cA := k23.cell0 cA
  replace cB := k23.cell0 cB
  replace cS := k23.cell0 cS
  replace cX := k23.cell0 cX
  have s23 := k23.size
  replace B := hide (below_step (unhide B) k23 (Nat.le_refl _) (by omega))
  clear k23
  rw [hIN.1, hIN.2]
  have hcx : ((cmpI x y < 0) ↔ (x < y)) := by
    unfold cmpI
    by_cases h : x < y
    · simp [h]
    · rw [if_neg h]
      split <;> simp [h]
  have HCX := hide hcx
  clear hcx hNUM hIN cX cS r7
  go_wp2_with fail
  refine (natCmp_impl _ rb ra).mono ?_
  rintro e w24 ⟨rfl, k24⟩
  replace r := r.kept k24 (by omega)
  replace ra := ra.kept k24 (by omega)
  replace rb := rb.kept k24 (by omega)
  replace cA := k24.cell0 cA
  replace cB := k24.cell0 cB
  have s24 := k24.size
  replace B := hide (below_step (unhide B) k24 (Nat.le_refl _) (by omega))
  clear k24
  rcases unhide HW with ⟨e1, e2, e3, e4⟩ | ⟨e1, e2, e3, e4⟩ | ⟨e1, e2, e3, e4⟩
  all_goals
    rw [e2]
    obtain rfl := (unhide HC).trans e1
    subst e4
    have E3 := hide e3
    clear e1 e2 e3 HW HC
    go_wp2_with fail
    refine (sameNat_any _ ra rb).mono ?_
    rintro e w25 ⟨rfl, k25⟩
    replace r := r.kept k25 (by omega)
    replace ra := ra.kept k25 (by omega)
    replace rb := rb.kept k25 (by omega)
    replace cA := k25.cell0 cA
    replace cB := k25.cell0 cB
    have s25 := k25.size
    replace B := hide (below_step (unhide B) k25 (Nat.le_refl _) (by omega))
    clear k25
    rw [unhide E3]
    go_wp2_with fail
    refine (nat_any _ x (by omega)).mono ?_
    rintro e w26 ⟨vx, rfl, rx, k26⟩
    replace r := r.kept k26 (by omega)
    replace ra := ra.kept k26 (by omega)
    replace rb := rb.kept k26 (by omega)
    replace cA := k26.cell0 cA
    replace cB := k26.cell0 cB
    have s26 := k26.size
    replace B := hide (below_step (unhide B) k26 (Nat.le_refl _) (by omega))
    clear k26
    go_wp2_with fail
    refine (nat_any _ y (by omega)).mono ?_
    rintro e w27 ⟨vy, rfl, ry, k27⟩
    replace r := r.kept k27 (by omega)
    replace ra := ra.kept k27 (by omega)
    replace rb := rb.kept k27 (by omega)
    replace rx := rx.kept k27 (by omega)
    replace cA := k27.cell0 cA
    replace cB := k27.cell0 cB
    have s27 := k27.size
    replace B := hide (below_step (unhide B) k27 (Nat.le_refl _) (by omega))
    clear k27
    go_wp2_with fail
    refine (natCmp_impl _ rx ry).mono ?_
    rintro e w28 ⟨rfl, k28⟩
    replace r := r.kept k28 (by omega)
    replace ra := ra.kept k28 (by omega)
    replace rb := rb.kept k28 (by omega)
    replace rx := rx.kept k28 (by omega)
    replace ry := ry.kept k28 (by omega)
    replace cA := k28.cell0 cA
    replace cB := k28.cell0 cB
    have s28 := k28.size
    replace B := hide (below_step (unhide B) k28 (Nat.le_refl _) (by omega))
    clear k28
    rw [unhide HNUM']
    by_cases hxy : x < y
    · have hci : cmpI x y < 0 := (unhide HCX).2 hxy
      generalize cmpI x y = cc at *
      clear ra rb rx ry r cA cB
      have hfin := hide (show (decide (cc < 0) == decide (x < y)) = true by simp [hci, hxy])
      go_wp2_with fail
      go_ret
      first
        | exact ⟨rfl, unhide B⟩
        | exact ⟨congrArg (fun b => Ending.returned (Value.bool b)) (unhide hfin), unhide B⟩
    · have hci : ¬ cmpI x y < 0 := fun e => hxy ((unhide HCX).1 e)
      generalize cmpI x y = cc at *
      clear ra rb rx ry r cA cB
      have hfin := hide (show (decide (cc < 0) == decide (x < y)) = true by simp [hci, hxy])
      go_wp2_with fail
      go_ret
      first
        | exact ⟨rfl, unhide B⟩
        | exact ⟨congrArg (fun b => Ending.returned (Value.bool b)) (unhide hfin), unhide B⟩

end Go.Proofs.Ytdlpkppkmfjdiaa
