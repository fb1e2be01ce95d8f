/-
  The walk of the law FnNatRing: it returns true at every code.
-/
import Derived.Test.YtkdapefddhbjdaaMore
import Derived.Test.YtkdapefddhbjdaaLawR
import Derived.Test.YtkdapefddhbjdaaINat16
import Derived.Test.YtkdapefddhbjdaaINat18
namespace Go.Proofs.Ytkdapefddhbjdaa
open Go.RowKit
set_option linter.unusedVariables false
set_option maxRecDepth 8000
set_option linter.unusedSimpArgs false

theorem ans_full {c : Bool} {n : Nat} (h : ansB c n = true) : c = true ∧ ansL c n = limbs n ∧ okB (limbs n) = true ∧ val (limbs n) = n := by
  cases hc : c
  · rw [hc] at h; unfold ansB at h; cases h
  · rw [hc, ansB_yes rfl] at h
    have hl := of_decide_eq_true h
    exact ⟨rfl, by rw [ansL_yes rfl]; exact tell_short hl, (okB_iff _).2 ⟨hl, limbs_nrm _⟩, limbs_val _⟩

theorem ring_sub {xs ys : List Int} (o1 : okB xs = true) (o2 : okB ys = true) (h : ansB (okB xs && okB ys) (val xs + val ys).toNat = true) :
    okB (ansL (okB xs && okB ys) (val xs + val ys).toNat) = true ∧
    ansB (okB (ansL (okB xs && okB ys) (val xs + val ys).toNat) && okB ys && decide (val ys ≤ val (ansL (okB xs && okB ys) (val xs + val ys).toNat))) (val (ansL (okB xs && okB ys) (val xs + val ys).toNat) - val ys).toNat = true ∧
    ansL (okB (ansL (okB xs && okB ys) (val xs + val ys).toNat) && okB ys && decide (val ys ≤ val (ansL (okB xs && okB ys) (val xs + val ys).toNat))) (val (ansL (okB xs && okB ys) (val xs + val ys).toNat) - val ys).toNat = xs := by
  obtain ⟨-, e, o, ev⟩ := ans_full h
  obtain ⟨l1, n1⟩ := (okB_iff xs).1 o1
  obtain ⟨l2, n2⟩ := (okB_iff ys).1 o2
  have hx := val_nonneg n1.1
  have hy := val_nonneg n2.1
  rw [e, o, o2, ev, decide_eq_true (show val ys ≤ ((val xs + val ys).toNat : Int) by omega), show (((val xs + val ys).toNat : Int) - val ys).toNat = (val xs).toNat by omega]
  have ex : limbs (val xs).toNat = xs := (nrm_limbs n1).symm
  refine ⟨rfl, ?_, ?_⟩
  · rw [ansB_yes (show (true && true && true) = true from rfl), ex]; exact decide_eq_true l1
  · rw [ansL_yes (show (true && true && true) = true from rfl), ex]; exact tell_short l1

theorem ring_dist {xs ys cs SL YL ZL XL UL : List Int} {SB XB YB ZB UB : Bool} (o1 : okB xs = true) (o2 : okB ys = true)
    (hs : ansB (okB xs && okB ys) (val xs + val ys).toNat = SB ∧ ansL (okB xs && okB ys) (val xs + val ys).toNat = SL)
    (hx : ansB (okB SL && okB cs) (val SL * val cs).toNat = XB ∧ ansL (okB SL && okB cs) (val SL * val cs).toNat = XL)
    (hy : ansB (okB xs && okB cs) (val xs * val cs).toNat = YB ∧ ansL (okB xs && okB cs) (val xs * val cs).toNat = YL)
    (hz : ansB (okB ys && okB cs) (val ys * val cs).toNat = ZB ∧ ansL (okB ys && okB cs) (val ys * val cs).toNat = ZL)
    (hu : ansB (okB YL && okB ZL) (val YL + val ZL).toNat = UB ∧ ansL (okB YL && okB ZL) (val YL + val ZL).toNat = UL)
    (h1 : SB = true) (h2 : XB = true) (h3 : YB = true) (h4 : ZB = true) (h5 : UB = true) : XL = UL := by
  subst h1 h2 h3 h4 h5
  obtain ⟨-, e1, q1, w1⟩ := ans_full hs.1
  obtain ⟨c2, e2, q2, w2⟩ := ans_full hx.1
  obtain ⟨-, e3, q3, w3⟩ := ans_full hy.1
  obtain ⟨-, e4, q4, w4⟩ := ans_full hz.1
  obtain ⟨-, e5, q5, w5⟩ := ans_full hu.1
  have n1 := val_nonneg ((okB_iff xs).1 o1).2.1
  have n2 := val_nonneg ((okB_iff ys).1 o2).2.1
  rw [Bool.and_eq_true] at c2
  have n3 := val_nonneg ((okB_iff cs).1 c2.2).2.1
  rw [← hx.2, ← hu.2, e2, e5]
  rw [← hs.2, e1, w1, ← hy.2, e3, w3, ← hz.2, e4, w4]
  have p1 := Int.mul_nonneg n1 n3
  have p2 := Int.mul_nonneg n2 n3
  congr 1
  rw [show ((val xs + val ys).toNat : Int) = val xs + val ys by omega, Int.add_mul]
  omega

set_option maxHeartbeats 8000000 in
theorem law_NatRing {v : Value} {zs : List Int} {w : World} (r : Row .u8 false 0 w.heap.size w v zs) (hb0 : ∀ z ∈ zs, (Lit.int .u8 z).wf = true) (hr : zs.length ≤ 140737488351232) :
    Calls Try.prog 3 #[v] w fun e w' => e = .returned (.bool true) ∧ Below w.heap.size w w' := by
  have hb := bytes_of_wf hb0
  clear hb0
  have hB := hide hb
  clear hb
  have hR := hide hr
  clear hr
  have s0 : w.heap.size = w.heap.size := rfl
  obtain ⟨a0, c0, hv⟩ := r.form'
  subst hv
  have K := hide (Kept.refl 0 0 w)
  have S0 := hide s0
  clear s0
  go_enter Try.func3, Try.ntmps3
  go_wp2_with fail
  refine (nats_any _).mono ?_
  rintro e w1 ⟨rfl, k1⟩
  replace r := r.kept k1 (.inr (.inr (Nat.le_refl 0)))
  replace K := hide ((unhide K).trans k1)
  have z2 := k1.size
  clear k1
  go_wp2_with fail
  refine (drawAdd_any _ r (unhide hB)).mono ?_
  rintro e w3 ⟨v1, v2, rfl, ⟨xs, r1⟩, ⟨ys, r2⟩, k3⟩
  replace r := r.kept k3 (.inr (.inr (Nat.le_refl 0)))
  replace K := hide ((unhide K).trans k3)
  have z4 := k3.size
  clear k3
  obtain ⟨a1, c1, hv⟩ := Row.form' r1
  subst hv
  obtain ⟨a2, c2, hv⟩ := Row.form' r2
  subst hv
  have kn := (Kept.refl 0 0 w3).alloc (.cells #[.slice a1 xs.length c1] 26)
  have ca0 : (w3.alloc (.cells #[.slice a1 xs.length c1] 26)).cell? ⟨w3.heap.size, 0, none⟩ = some (.slice a1 xs.length c1) := new_cell2 _ _ _ _ _ _ (by simp) rfl
  have sz5 : w3.heap.size + 1 ≤ (w3.alloc (.cells #[.slice a1 xs.length c1] 26)).heap.size := by simp
  replace r := r.kept kn (.inr (.inr (Nat.le_refl 0)))
  replace r1 := r1.kept kn (.inr (.inr (Nat.le_refl 0)))
  replace r2 := r2.kept kn (.inr (.inr (Nat.le_refl 0)))
  replace K := hide ((unhide K).trans kn)
  have z6 := kn.size
  clear kn
  have kn := (Kept.refl 0 0 (w3.alloc (.cells #[.slice a1 xs.length c1] 26))).alloc (.cells #[.slice a2 ys.length c2] 26)
  have cb0 : ((w3.alloc (.cells #[.slice a1 xs.length c1] 26)).alloc (.cells #[.slice a2 ys.length c2] 26)).cell? ⟨w3.heap.size + 1, 0, none⟩ = some (.slice a2 ys.length c2) := new_cell2 _ _ _ _ _ _ (by simp) rfl
  have sz7 : (w3.alloc (.cells #[.slice a1 xs.length c1] 26)).heap.size + 1 ≤ ((w3.alloc (.cells #[.slice a1 xs.length c1] 26)).alloc (.cells #[.slice a2 ys.length c2] 26)).heap.size := by simp
  replace r := r.kept kn (.inr (.inr (Nat.le_refl 0)))
  replace r1 := r1.kept kn (.inr (.inr (Nat.le_refl 0)))
  replace r2 := r2.kept kn (.inr (.inr (Nat.le_refl 0)))
  replace ca0 := kn.cell0 ca0
  replace K := hide ((unhide K).trans kn)
  have z8 := kn.size
  clear kn
  go_wp2_with fail
  generalize ((w3.alloc (.cells #[.slice a1 xs.length c1] 26)).alloc (.cells #[.slice a2 ys.length c2] 26)) = wn9 at *
  refine (more_any _ r (unhide hR)).mono ?_
  rintro e w10 ⟨v3, rfl, r3, k10⟩
  replace r := r.kept k10 (.inr (.inr (Nat.le_refl 0)))
  replace r1 := r1.kept k10 (.inr (.inr (Nat.le_refl 0)))
  replace r2 := r2.kept k10 (.inr (.inr (Nat.le_refl 0)))
  replace ca0 := k10.cell0 ca0
  replace cb0 := k10.cell0 cb0
  replace K := hide ((unhide K).trans k10)
  have z11 := k10.size
  clear k10
  clear r
  obtain ⟨a3, c3, hv⟩ := Row.form' r3
  subst hv
  go_wp2_with fail
  refine (drawAdd_any _ r3 (bytes_more (unhide hB))).mono ?_
  rintro e w12 ⟨v4, v5, rfl, ⟨cs, r4⟩, ⟨es, r5⟩, k12⟩
  replace r1 := r1.kept k12 (.inr (.inr (Nat.le_refl 0)))
  replace r2 := r2.kept k12 (.inr (.inr (Nat.le_refl 0)))
  replace r3 := r3.kept k12 (.inr (.inr (Nat.le_refl 0)))
  replace ca0 := k12.cell0 ca0
  replace cb0 := k12.cell0 cb0
  replace K := hide ((unhide K).trans k12)
  have z13 := k12.size
  clear k12
  clear r3
  obtain ⟨a4, c4, hv⟩ := Row.form' r4
  subst hv
  obtain ⟨a5, c5, hv⟩ := Row.form' r5
  subst hv
  have kn := (Kept.refl 0 0 w12).alloc (.cells #[.slice a4 cs.length c4] 26)
  have cc0 : (w12.alloc (.cells #[.slice a4 cs.length c4] 26)).cell? ⟨w12.heap.size, 0, none⟩ = some (.slice a4 cs.length c4) := new_cell2 _ _ _ _ _ _ (by simp) rfl
  have sz14 : w12.heap.size + 1 ≤ (w12.alloc (.cells #[.slice a4 cs.length c4] 26)).heap.size := by simp
  replace r1 := r1.kept kn (.inr (.inr (Nat.le_refl 0)))
  replace r2 := r2.kept kn (.inr (.inr (Nat.le_refl 0)))
  replace r4 := r4.kept kn (.inr (.inr (Nat.le_refl 0)))
  replace r5 := r5.kept kn (.inr (.inr (Nat.le_refl 0)))
  replace ca0 := kn.cell0 ca0
  replace cb0 := kn.cell0 cb0
  replace K := hide ((unhide K).trans kn)
  have z15 := kn.size
  clear kn
  have kn := (Kept.refl 0 0 (w12.alloc (.cells #[.slice a4 cs.length c4] 26))).alloc (.cells #[.slice a5 es.length c5] 26)
  have cd0 : ((w12.alloc (.cells #[.slice a4 cs.length c4] 26)).alloc (.cells #[.slice a5 es.length c5] 26)).cell? ⟨w12.heap.size + 1, 0, none⟩ = some (.slice a5 es.length c5) := new_cell2 _ _ _ _ _ _ (by simp) rfl
  have sz16 : (w12.alloc (.cells #[.slice a4 cs.length c4] 26)).heap.size + 1 ≤ ((w12.alloc (.cells #[.slice a4 cs.length c4] 26)).alloc (.cells #[.slice a5 es.length c5] 26)).heap.size := by simp
  replace r1 := r1.kept kn (.inr (.inr (Nat.le_refl 0)))
  replace r2 := r2.kept kn (.inr (.inr (Nat.le_refl 0)))
  replace r4 := r4.kept kn (.inr (.inr (Nat.le_refl 0)))
  replace r5 := r5.kept kn (.inr (.inr (Nat.le_refl 0)))
  replace ca0 := kn.cell0 ca0
  replace cb0 := kn.cell0 cb0
  replace cc0 := kn.cell0 cc0
  replace K := hide ((unhide K).trans kn)
  have z17 := kn.size
  clear kn
  go_wp2_with fail
  generalize ((w12.alloc (.cells #[.slice a4 cs.length c4] 26)).alloc (.cells #[.slice a5 es.length c5] 26)) = wn18 at *
  clear r5
  have mk := natAdd_impl wn18 r1 r2
  obtain ⟨SB, hBS⟩ : ∃ y, ansB (okB xs && okB ys) (val xs + val ys).toNat = y := ⟨_, rfl⟩
  obtain ⟨SL, hLS⟩ : ∃ y, ansL (okB xs && okB ys) (val xs + val ys).toNat = y := ⟨_, rfl⟩
  rw [hBS, hLS] at mk
  have HS := hide (And.intro hBS hLS)
  clear hBS hLS
  refine (mk).mono ?_
  rintro e w19 ⟨v6, rfl, r6, k19⟩
  replace r1 := r1.kept k19 (.inr (.inr (Nat.le_refl 0)))
  replace r2 := r2.kept k19 (.inr (.inr (Nat.le_refl 0)))
  replace r4 := r4.kept k19 (.inr (.inr (Nat.le_refl 0)))
  replace ca0 := k19.cell0 ca0
  replace cb0 := k19.cell0 cb0
  replace cc0 := k19.cell0 cc0
  replace cd0 := k19.cell0 cd0
  replace K := hide ((unhide K).trans k19)
  have z20 := k19.size
  clear k19
  clear mk
  obtain ⟨a6, c6, hv⟩ := Row.form' r6
  subst hv
  have kn := (Kept.refl 0 0 w19).alloc (.cells #[.slice a6 SL.length c6] 26)
  have n60 : (w19.alloc (.cells #[.slice a6 SL.length c6] 26)).cell? ⟨w19.heap.size, 0, none⟩ = some (.slice a6 SL.length c6) := new_cell2 _ _ _ _ _ _ (by simp) rfl
  have sz21 : w19.heap.size + 1 ≤ (w19.alloc (.cells #[.slice a6 SL.length c6] 26)).heap.size := by simp
  replace r1 := r1.kept kn (.inr (.inr (Nat.le_refl 0)))
  replace r2 := r2.kept kn (.inr (.inr (Nat.le_refl 0)))
  replace r4 := r4.kept kn (.inr (.inr (Nat.le_refl 0)))
  replace r6 := r6.kept kn (.inr (.inr (Nat.le_refl 0)))
  replace ca0 := kn.cell0 ca0
  replace cb0 := kn.cell0 cb0
  replace cc0 := kn.cell0 cc0
  replace cd0 := kn.cell0 cd0
  replace K := hide ((unhide K).trans kn)
  have z22 := kn.size
  clear kn
  go_wp2_with fail
  generalize (w19.alloc (.cells #[.slice a6 SL.length c6] 26)) = wn23 at *
  have mk := natAdd_impl wn23 r2 r1
  rw [Bool.and_comm, Int.add_comm, (unhide HS).1, (unhide HS).2] at mk
  refine (mk).mono ?_
  rintro e w24 ⟨v7, rfl, r7, k24⟩
  replace r1 := r1.kept k24 (.inr (.inr (Nat.le_refl 0)))
  replace r2 := r2.kept k24 (.inr (.inr (Nat.le_refl 0)))
  replace r4 := r4.kept k24 (.inr (.inr (Nat.le_refl 0)))
  replace r6 := r6.kept k24 (.inr (.inr (Nat.le_refl 0)))
  replace ca0 := k24.cell0 ca0
  replace cb0 := k24.cell0 cb0
  replace cc0 := k24.cell0 cc0
  replace cd0 := k24.cell0 cd0
  replace n60 := k24.cell0 n60
  replace K := hide ((unhide K).trans k24)
  have z25 := k24.size
  clear k24
  clear mk
  obtain ⟨a7, c7, hv⟩ := Row.form' r7
  subst hv
  have kn := (Kept.refl 0 0 w24).alloc (.cells #[.slice a7 SL.length c7] 26)
  have n70 : (w24.alloc (.cells #[.slice a7 SL.length c7] 26)).cell? ⟨w24.heap.size, 0, none⟩ = some (.slice a7 SL.length c7) := new_cell2 _ _ _ _ _ _ (by simp) rfl
  have sz26 : w24.heap.size + 1 ≤ (w24.alloc (.cells #[.slice a7 SL.length c7] 26)).heap.size := by simp
  replace r1 := r1.kept kn (.inr (.inr (Nat.le_refl 0)))
  replace r2 := r2.kept kn (.inr (.inr (Nat.le_refl 0)))
  replace r4 := r4.kept kn (.inr (.inr (Nat.le_refl 0)))
  replace r6 := r6.kept kn (.inr (.inr (Nat.le_refl 0)))
  replace r7 := r7.kept kn (.inr (.inr (Nat.le_refl 0)))
  replace ca0 := kn.cell0 ca0
  replace cb0 := kn.cell0 cb0
  replace cc0 := kn.cell0 cc0
  replace cd0 := kn.cell0 cd0
  replace n60 := kn.cell0 n60
  replace K := hide ((unhide K).trans kn)
  have z27 := kn.size
  clear kn
  go_wp2_with fail
  generalize (w24.alloc (.cells #[.slice a7 SL.length c7] 26)) = wn28 at *
  have mk := natMul_impl wn28 r1 r2
  obtain ⟨PB, hBP⟩ : ∃ y, ansB (okB xs && okB ys) (val xs * val ys).toNat = y := ⟨_, rfl⟩
  obtain ⟨PL, hLP⟩ : ∃ y, ansL (okB xs && okB ys) (val xs * val ys).toNat = y := ⟨_, rfl⟩
  rw [hBP, hLP] at mk
  have HP := hide (And.intro hBP hLP)
  clear hBP hLP
  refine (mk).mono ?_
  rintro e w29 ⟨v8, rfl, r8, k29⟩
  replace r1 := r1.kept k29 (.inr (.inr (Nat.le_refl 0)))
  replace r2 := r2.kept k29 (.inr (.inr (Nat.le_refl 0)))
  replace r4 := r4.kept k29 (.inr (.inr (Nat.le_refl 0)))
  replace r6 := r6.kept k29 (.inr (.inr (Nat.le_refl 0)))
  replace r7 := r7.kept k29 (.inr (.inr (Nat.le_refl 0)))
  replace ca0 := k29.cell0 ca0
  replace cb0 := k29.cell0 cb0
  replace cc0 := k29.cell0 cc0
  replace cd0 := k29.cell0 cd0
  replace n60 := k29.cell0 n60
  replace n70 := k29.cell0 n70
  replace K := hide ((unhide K).trans k29)
  have z30 := k29.size
  clear k29
  clear mk
  obtain ⟨a8, c8, hv⟩ := Row.form' r8
  subst hv
  have kn := (Kept.refl 0 0 w29).alloc (.cells #[.slice a8 PL.length c8] 26)
  have n80 : (w29.alloc (.cells #[.slice a8 PL.length c8] 26)).cell? ⟨w29.heap.size, 0, none⟩ = some (.slice a8 PL.length c8) := new_cell2 _ _ _ _ _ _ (by simp) rfl
  have sz31 : w29.heap.size + 1 ≤ (w29.alloc (.cells #[.slice a8 PL.length c8] 26)).heap.size := by simp
  replace r1 := r1.kept kn (.inr (.inr (Nat.le_refl 0)))
  replace r2 := r2.kept kn (.inr (.inr (Nat.le_refl 0)))
  replace r4 := r4.kept kn (.inr (.inr (Nat.le_refl 0)))
  replace r6 := r6.kept kn (.inr (.inr (Nat.le_refl 0)))
  replace r7 := r7.kept kn (.inr (.inr (Nat.le_refl 0)))
  replace r8 := r8.kept kn (.inr (.inr (Nat.le_refl 0)))
  replace ca0 := kn.cell0 ca0
  replace cb0 := kn.cell0 cb0
  replace cc0 := kn.cell0 cc0
  replace cd0 := kn.cell0 cd0
  replace n60 := kn.cell0 n60
  replace n70 := kn.cell0 n70
  replace K := hide ((unhide K).trans kn)
  have z32 := kn.size
  clear kn
  go_wp2_with fail
  generalize (w29.alloc (.cells #[.slice a8 PL.length c8] 26)) = wn33 at *
  have mk := natMul_impl wn33 r2 r1
  rw [Bool.and_comm, Int.mul_comm, (unhide HP).1, (unhide HP).2] at mk
  refine (mk).mono ?_
  rintro e w34 ⟨v9, rfl, r9, k34⟩
  replace r1 := r1.kept k34 (.inr (.inr (Nat.le_refl 0)))
  replace r2 := r2.kept k34 (.inr (.inr (Nat.le_refl 0)))
  replace r4 := r4.kept k34 (.inr (.inr (Nat.le_refl 0)))
  replace r6 := r6.kept k34 (.inr (.inr (Nat.le_refl 0)))
  replace r7 := r7.kept k34 (.inr (.inr (Nat.le_refl 0)))
  replace r8 := r8.kept k34 (.inr (.inr (Nat.le_refl 0)))
  replace ca0 := k34.cell0 ca0
  replace cb0 := k34.cell0 cb0
  replace cc0 := k34.cell0 cc0
  replace cd0 := k34.cell0 cd0
  replace n60 := k34.cell0 n60
  replace n70 := k34.cell0 n70
  replace n80 := k34.cell0 n80
  replace K := hide ((unhide K).trans k34)
  have z35 := k34.size
  clear k34
  clear mk
  obtain ⟨a9, c9, hv⟩ := Row.form' r9
  subst hv
  have kn := (Kept.refl 0 0 w34).alloc (.cells #[.slice a9 PL.length c9] 26)
  have n90 : (w34.alloc (.cells #[.slice a9 PL.length c9] 26)).cell? ⟨w34.heap.size, 0, none⟩ = some (.slice a9 PL.length c9) := new_cell2 _ _ _ _ _ _ (by simp) rfl
  have sz36 : w34.heap.size + 1 ≤ (w34.alloc (.cells #[.slice a9 PL.length c9] 26)).heap.size := by simp
  replace r1 := r1.kept kn (.inr (.inr (Nat.le_refl 0)))
  replace r2 := r2.kept kn (.inr (.inr (Nat.le_refl 0)))
  replace r4 := r4.kept kn (.inr (.inr (Nat.le_refl 0)))
  replace r6 := r6.kept kn (.inr (.inr (Nat.le_refl 0)))
  replace r7 := r7.kept kn (.inr (.inr (Nat.le_refl 0)))
  replace r8 := r8.kept kn (.inr (.inr (Nat.le_refl 0)))
  replace r9 := r9.kept kn (.inr (.inr (Nat.le_refl 0)))
  replace ca0 := kn.cell0 ca0
  replace cb0 := kn.cell0 cb0
  replace cc0 := kn.cell0 cc0
  replace cd0 := kn.cell0 cd0
  replace n60 := kn.cell0 n60
  replace n70 := kn.cell0 n70
  replace n80 := kn.cell0 n80
  replace K := hide ((unhide K).trans kn)
  have z37 := kn.size
  clear kn
  go_wp2_with fail
  generalize (w34.alloc (.cells #[.slice a9 PL.length c9] 26)) = wn38 at *
  have eSB : (SB != SB) = false := by cases SB <;> rfl
  have ePB : (PB != PB) = false := by cases PB <;> rfl
  have fSB : (!(SB == SB)) = false := by cases SB <;> rfl
  have fPB : (!(PB == PB)) = false := by cases PB <;> rfl
  go_wp2_with fail
  have mk := sameNat_any wn38 r6 r7
  rw [show sameL SL SL = true from decide_eq_true rfl] at mk
  refine (mk).mono ?_
  rintro e w39 ⟨rfl, k39⟩
  replace r1 := r1.kept k39 (.inr (.inr (Nat.le_refl 0)))
  replace r2 := r2.kept k39 (.inr (.inr (Nat.le_refl 0)))
  replace r4 := r4.kept k39 (.inr (.inr (Nat.le_refl 0)))
  replace r6 := r6.kept k39 (.inr (.inr (Nat.le_refl 0)))
  replace r7 := r7.kept k39 (.inr (.inr (Nat.le_refl 0)))
  replace r8 := r8.kept k39 (.inr (.inr (Nat.le_refl 0)))
  replace r9 := r9.kept k39 (.inr (.inr (Nat.le_refl 0)))
  replace ca0 := k39.cell0 ca0
  replace cb0 := k39.cell0 cb0
  replace cc0 := k39.cell0 cc0
  replace cd0 := k39.cell0 cd0
  replace n60 := k39.cell0 n60
  replace n70 := k39.cell0 n70
  replace n80 := k39.cell0 n80
  replace n90 := k39.cell0 n90
  replace K := hide ((unhide K).trans k39)
  have z40 := k39.size
  clear k39
  clear mk
  go_wp2_with fail
  have mk := sameNat_any w39 r8 r9
  rw [show sameL PL PL = true from decide_eq_true rfl] at mk
  refine (mk).mono ?_
  rintro e w41 ⟨rfl, k41⟩
  replace r1 := r1.kept k41 (.inr (.inr (Nat.le_refl 0)))
  replace r2 := r2.kept k41 (.inr (.inr (Nat.le_refl 0)))
  replace r4 := r4.kept k41 (.inr (.inr (Nat.le_refl 0)))
  replace r6 := r6.kept k41 (.inr (.inr (Nat.le_refl 0)))
  replace r7 := r7.kept k41 (.inr (.inr (Nat.le_refl 0)))
  replace r8 := r8.kept k41 (.inr (.inr (Nat.le_refl 0)))
  replace r9 := r9.kept k41 (.inr (.inr (Nat.le_refl 0)))
  replace ca0 := k41.cell0 ca0
  replace cb0 := k41.cell0 cb0
  replace cc0 := k41.cell0 cc0
  replace cd0 := k41.cell0 cd0
  replace n60 := k41.cell0 n60
  replace n70 := k41.cell0 n70
  replace n80 := k41.cell0 n80
  replace n90 := k41.cell0 n90
  replace K := hide ((unhide K).trans k41)
  have z42 := k41.size
  clear k41
  clear mk
  go_wp2_with fail
  clear r7 r8 r9
  clear eSB ePB fSB fPB
  have mo := ok_spec w41 r1
  refine (mo).mono ?_
  rintro e w43 ⟨rfl, k43⟩
  replace r1 := r1.kept k43 (.inr (.inr (Nat.le_refl 0)))
  replace r2 := r2.kept k43 (.inr (.inr (Nat.le_refl 0)))
  replace r4 := r4.kept k43 (.inr (.inr (Nat.le_refl 0)))
  replace r6 := r6.kept k43 (.inr (.inr (Nat.le_refl 0)))
  replace ca0 := k43.cell0 ca0
  replace cb0 := k43.cell0 cb0
  replace cc0 := k43.cell0 cc0
  replace cd0 := k43.cell0 cd0
  replace n60 := k43.cell0 n60
  replace n70 := k43.cell0 n70
  replace n80 := k43.cell0 n80
  replace n90 := k43.cell0 n90
  replace K := hide ((unhide K).trans k43)
  have z44 := k43.size
  clear k43
  clear mo
  cases ho1 : okB xs
  · have hs : SB = false := by rw [← (unhide HS).1, ho1]; simp [ansB]
    have hp : PB = false := by rw [← (unhide HP).1, ho1]; simp [ansB]
    subst hs hp
    clear ho1
    go_wp2_with fail
    have mk := ok_impl w43 (Row.nil .i64 true 0 0 w43)
    rw [show okB [] = true by decide] at mk
    refine (mk).mono ?_
    rintro e w45 ⟨rfl, k45⟩
    replace r1 := r1.kept k45 (.inr (.inr (Nat.le_refl 0)))
    replace r2 := r2.kept k45 (.inr (.inr (Nat.le_refl 0)))
    replace r4 := r4.kept k45 (.inr (.inr (Nat.le_refl 0)))
    replace r6 := r6.kept k45 (.inr (.inr (Nat.le_refl 0)))
    replace ca0 := k45.cell0 ca0
    replace cb0 := k45.cell0 cb0
    replace cc0 := k45.cell0 cc0
    replace cd0 := k45.cell0 cd0
    replace n60 := k45.cell0 n60
    replace n70 := k45.cell0 n70
    replace n80 := k45.cell0 n80
    replace n90 := k45.cell0 n90
    replace K := hide ((unhide K).trans k45)
    have z46 := k45.size
    clear k45
    clear mk
    try go_wp2_with fail
    go_ret
    exact ⟨rfl, (unhide K).toBelow⟩
  have HO1 := hide ho1
  clear ho1
  go_wp2_with fail
  have mo := ok_spec w43 r2
  refine (mo).mono ?_
  rintro e w45 ⟨rfl, k45⟩
  replace r1 := r1.kept k45 (.inr (.inr (Nat.le_refl 0)))
  replace r2 := r2.kept k45 (.inr (.inr (Nat.le_refl 0)))
  replace r4 := r4.kept k45 (.inr (.inr (Nat.le_refl 0)))
  replace r6 := r6.kept k45 (.inr (.inr (Nat.le_refl 0)))
  replace ca0 := k45.cell0 ca0
  replace cb0 := k45.cell0 cb0
  replace cc0 := k45.cell0 cc0
  replace cd0 := k45.cell0 cd0
  replace n60 := k45.cell0 n60
  replace n70 := k45.cell0 n70
  replace n80 := k45.cell0 n80
  replace n90 := k45.cell0 n90
  replace K := hide ((unhide K).trans k45)
  have z46 := k45.size
  clear k45
  clear mo
  cases ho2 : okB ys
  · have hs : SB = false := by rw [← (unhide HS).1, ho2]; simp [ansB]
    have hp : PB = false := by rw [← (unhide HP).1, ho2]; simp [ansB]
    subst hs hp
    clear ho2
    go_wp2_with fail
    have mk := ok_impl w45 (Row.nil .i64 true 0 0 w45)
    rw [show okB [] = true by decide] at mk
    refine (mk).mono ?_
    rintro e w47 ⟨rfl, k47⟩
    replace r1 := r1.kept k47 (.inr (.inr (Nat.le_refl 0)))
    replace r2 := r2.kept k47 (.inr (.inr (Nat.le_refl 0)))
    replace r4 := r4.kept k47 (.inr (.inr (Nat.le_refl 0)))
    replace r6 := r6.kept k47 (.inr (.inr (Nat.le_refl 0)))
    replace ca0 := k47.cell0 ca0
    replace cb0 := k47.cell0 cb0
    replace cc0 := k47.cell0 cc0
    replace cd0 := k47.cell0 cd0
    replace n60 := k47.cell0 n60
    replace n70 := k47.cell0 n70
    replace n80 := k47.cell0 n80
    replace n90 := k47.cell0 n90
    replace K := hide ((unhide K).trans k47)
    have z48 := k47.size
    clear k47
    clear mk
    try go_wp2_with fail
    go_ret
    exact ⟨rfl, (unhide K).toBelow⟩
  have HO2 := hide ho2
  clear ho2
  go_wp2_with fail
  have md := natSub_impl w45 r6 r2
  cases hsb : SB
  · subst hsb
    obtain ⟨DB, hDB⟩ : ∃ y, ansB (okB SL && okB ys && decide (val ys ≤ val SL)) (val SL - val ys).toNat = y := ⟨_, rfl⟩
    obtain ⟨DL, hDL⟩ : ∃ y, ansL (okB SL && okB ys && decide (val ys ≤ val SL)) (val SL - val ys).toNat = y := ⟨_, rfl⟩
    rw [hDB, hDL] at md
    clear hDB hDL
    refine (md).mono ?_
    rintro e w47 ⟨vd, rfl, rd, k47⟩
    replace r1 := r1.kept k47 (.inr (.inr (Nat.le_refl 0)))
    replace r2 := r2.kept k47 (.inr (.inr (Nat.le_refl 0)))
    replace r4 := r4.kept k47 (.inr (.inr (Nat.le_refl 0)))
    replace r6 := r6.kept k47 (.inr (.inr (Nat.le_refl 0)))
    replace ca0 := k47.cell0 ca0
    replace cb0 := k47.cell0 cb0
    replace cc0 := k47.cell0 cc0
    replace cd0 := k47.cell0 cd0
    replace n60 := k47.cell0 n60
    replace n70 := k47.cell0 n70
    replace n80 := k47.cell0 n80
    replace n90 := k47.cell0 n90
    replace K := hide ((unhide K).trans k47)
    have z48 := k47.size
    clear k47
    clear md
    obtain ⟨ad, cd, hv⟩ := Row.form' rd
    subst hv
    have kn := (Kept.refl 0 0 w47).alloc (.cells #[.slice ad DL.length cd] 26)
    have nd0 : (w47.alloc (.cells #[.slice ad DL.length cd] 26)).cell? ⟨w47.heap.size, 0, none⟩ = some (.slice ad DL.length cd) := new_cell2 _ _ _ _ _ _ (by simp) rfl
    have sz49 : w47.heap.size + 1 ≤ (w47.alloc (.cells #[.slice ad DL.length cd] 26)).heap.size := by simp
    replace r1 := r1.kept kn (.inr (.inr (Nat.le_refl 0)))
    replace r2 := r2.kept kn (.inr (.inr (Nat.le_refl 0)))
    replace r4 := r4.kept kn (.inr (.inr (Nat.le_refl 0)))
    replace r6 := r6.kept kn (.inr (.inr (Nat.le_refl 0)))
    replace rd := rd.kept kn (.inr (.inr (Nat.le_refl 0)))
    replace ca0 := kn.cell0 ca0
    replace cb0 := kn.cell0 cb0
    replace cc0 := kn.cell0 cc0
    replace cd0 := kn.cell0 cd0
    replace n60 := kn.cell0 n60
    replace n70 := kn.cell0 n70
    replace n80 := kn.cell0 n80
    replace n90 := kn.cell0 n90
    replace K := hide ((unhide K).trans kn)
    have z50 := kn.size
    clear kn
    go_wp2_with fail
    generalize (w47.alloc (.cells #[.slice ad DL.length cd] 26)) = wn51 at *
    have mk := natMul_impl wn51 r6 r4
    obtain ⟨XB, hBX⟩ : ∃ y, ansB (okB SL && okB cs) (val SL * val cs).toNat = y := ⟨_, rfl⟩
    obtain ⟨XL, hLX⟩ : ∃ y, ansL (okB SL && okB cs) (val SL * val cs).toNat = y := ⟨_, rfl⟩
    rw [hBX, hLX] at mk
    have HX := hide (And.intro hBX hLX)
    clear hBX hLX
    refine (mk).mono ?_
    rintro e w52 ⟨vx, rfl, rx, k52⟩
    replace r1 := r1.kept k52 (.inr (.inr (Nat.le_refl 0)))
    replace r2 := r2.kept k52 (.inr (.inr (Nat.le_refl 0)))
    replace r4 := r4.kept k52 (.inr (.inr (Nat.le_refl 0)))
    replace r6 := r6.kept k52 (.inr (.inr (Nat.le_refl 0)))
    replace rd := rd.kept k52 (.inr (.inr (Nat.le_refl 0)))
    replace ca0 := k52.cell0 ca0
    replace cb0 := k52.cell0 cb0
    replace cc0 := k52.cell0 cc0
    replace cd0 := k52.cell0 cd0
    replace n60 := k52.cell0 n60
    replace n70 := k52.cell0 n70
    replace n80 := k52.cell0 n80
    replace n90 := k52.cell0 n90
    replace nd0 := k52.cell0 nd0
    replace K := hide ((unhide K).trans k52)
    have z53 := k52.size
    clear k52
    clear mk
    obtain ⟨ax, cx, hv⟩ := Row.form' rx
    subst hv
    have kn := (Kept.refl 0 0 w52).alloc (.cells #[.slice ax XL.length cx] 26)
    have nx0 : (w52.alloc (.cells #[.slice ax XL.length cx] 26)).cell? ⟨w52.heap.size, 0, none⟩ = some (.slice ax XL.length cx) := new_cell2 _ _ _ _ _ _ (by simp) rfl
    have sz54 : w52.heap.size + 1 ≤ (w52.alloc (.cells #[.slice ax XL.length cx] 26)).heap.size := by simp
    replace r1 := r1.kept kn (.inr (.inr (Nat.le_refl 0)))
    replace r2 := r2.kept kn (.inr (.inr (Nat.le_refl 0)))
    replace r4 := r4.kept kn (.inr (.inr (Nat.le_refl 0)))
    replace r6 := r6.kept kn (.inr (.inr (Nat.le_refl 0)))
    replace rd := rd.kept kn (.inr (.inr (Nat.le_refl 0)))
    replace rx := rx.kept kn (.inr (.inr (Nat.le_refl 0)))
    replace ca0 := kn.cell0 ca0
    replace cb0 := kn.cell0 cb0
    replace cc0 := kn.cell0 cc0
    replace cd0 := kn.cell0 cd0
    replace n60 := kn.cell0 n60
    replace n70 := kn.cell0 n70
    replace n80 := kn.cell0 n80
    replace n90 := kn.cell0 n90
    replace nd0 := kn.cell0 nd0
    replace K := hide ((unhide K).trans kn)
    have z55 := kn.size
    clear kn
    go_wp2_with fail
    generalize (w52.alloc (.cells #[.slice ax XL.length cx] 26)) = wn56 at *
    have mk := natMul_impl wn56 r1 r4
    obtain ⟨YB, hBY⟩ : ∃ y, ansB (okB xs && okB cs) (val xs * val cs).toNat = y := ⟨_, rfl⟩
    obtain ⟨YL, hLY⟩ : ∃ y, ansL (okB xs && okB cs) (val xs * val cs).toNat = y := ⟨_, rfl⟩
    rw [hBY, hLY] at mk
    have HY := hide (And.intro hBY hLY)
    clear hBY hLY
    refine (mk).mono ?_
    rintro e w57 ⟨vy, rfl, ry, k57⟩
    replace r1 := r1.kept k57 (.inr (.inr (Nat.le_refl 0)))
    replace r2 := r2.kept k57 (.inr (.inr (Nat.le_refl 0)))
    replace r4 := r4.kept k57 (.inr (.inr (Nat.le_refl 0)))
    replace r6 := r6.kept k57 (.inr (.inr (Nat.le_refl 0)))
    replace rd := rd.kept k57 (.inr (.inr (Nat.le_refl 0)))
    replace rx := rx.kept k57 (.inr (.inr (Nat.le_refl 0)))
    replace ca0 := k57.cell0 ca0
    replace cb0 := k57.cell0 cb0
    replace cc0 := k57.cell0 cc0
    replace cd0 := k57.cell0 cd0
    replace n60 := k57.cell0 n60
    replace n70 := k57.cell0 n70
    replace n80 := k57.cell0 n80
    replace n90 := k57.cell0 n90
    replace nd0 := k57.cell0 nd0
    replace nx0 := k57.cell0 nx0
    replace K := hide ((unhide K).trans k57)
    have z58 := k57.size
    clear k57
    clear mk
    obtain ⟨ay, cy, hv⟩ := Row.form' ry
    subst hv
    have kn := (Kept.refl 0 0 w57).alloc (.cells #[.slice ay YL.length cy] 26)
    have ny0 : (w57.alloc (.cells #[.slice ay YL.length cy] 26)).cell? ⟨w57.heap.size, 0, none⟩ = some (.slice ay YL.length cy) := new_cell2 _ _ _ _ _ _ (by simp) rfl
    have sz59 : w57.heap.size + 1 ≤ (w57.alloc (.cells #[.slice ay YL.length cy] 26)).heap.size := by simp
    replace r1 := r1.kept kn (.inr (.inr (Nat.le_refl 0)))
    replace r2 := r2.kept kn (.inr (.inr (Nat.le_refl 0)))
    replace r4 := r4.kept kn (.inr (.inr (Nat.le_refl 0)))
    replace r6 := r6.kept kn (.inr (.inr (Nat.le_refl 0)))
    replace rd := rd.kept kn (.inr (.inr (Nat.le_refl 0)))
    replace rx := rx.kept kn (.inr (.inr (Nat.le_refl 0)))
    replace ry := ry.kept kn (.inr (.inr (Nat.le_refl 0)))
    replace ca0 := kn.cell0 ca0
    replace cb0 := kn.cell0 cb0
    replace cc0 := kn.cell0 cc0
    replace cd0 := kn.cell0 cd0
    replace n60 := kn.cell0 n60
    replace n70 := kn.cell0 n70
    replace n80 := kn.cell0 n80
    replace n90 := kn.cell0 n90
    replace nd0 := kn.cell0 nd0
    replace nx0 := kn.cell0 nx0
    replace K := hide ((unhide K).trans kn)
    have z60 := kn.size
    clear kn
    go_wp2_with fail
    generalize (w57.alloc (.cells #[.slice ay YL.length cy] 26)) = wn61 at *
    have mk := natMul_impl wn61 r2 r4
    obtain ⟨ZB, hBZ⟩ : ∃ y, ansB (okB ys && okB cs) (val ys * val cs).toNat = y := ⟨_, rfl⟩
    obtain ⟨ZL, hLZ⟩ : ∃ y, ansL (okB ys && okB cs) (val ys * val cs).toNat = y := ⟨_, rfl⟩
    rw [hBZ, hLZ] at mk
    have HZ := hide (And.intro hBZ hLZ)
    clear hBZ hLZ
    refine (mk).mono ?_
    rintro e w62 ⟨vz, rfl, rz, k62⟩
    replace r1 := r1.kept k62 (.inr (.inr (Nat.le_refl 0)))
    replace r2 := r2.kept k62 (.inr (.inr (Nat.le_refl 0)))
    replace r4 := r4.kept k62 (.inr (.inr (Nat.le_refl 0)))
    replace r6 := r6.kept k62 (.inr (.inr (Nat.le_refl 0)))
    replace rd := rd.kept k62 (.inr (.inr (Nat.le_refl 0)))
    replace rx := rx.kept k62 (.inr (.inr (Nat.le_refl 0)))
    replace ry := ry.kept k62 (.inr (.inr (Nat.le_refl 0)))
    replace ca0 := k62.cell0 ca0
    replace cb0 := k62.cell0 cb0
    replace cc0 := k62.cell0 cc0
    replace cd0 := k62.cell0 cd0
    replace n60 := k62.cell0 n60
    replace n70 := k62.cell0 n70
    replace n80 := k62.cell0 n80
    replace n90 := k62.cell0 n90
    replace nd0 := k62.cell0 nd0
    replace nx0 := k62.cell0 nx0
    replace ny0 := k62.cell0 ny0
    replace K := hide ((unhide K).trans k62)
    have z63 := k62.size
    clear k62
    clear mk
    obtain ⟨az, cz, hv⟩ := Row.form' rz
    subst hv
    have kn := (Kept.refl 0 0 w62).alloc (.cells #[.slice az ZL.length cz] 26)
    have nz0 : (w62.alloc (.cells #[.slice az ZL.length cz] 26)).cell? ⟨w62.heap.size, 0, none⟩ = some (.slice az ZL.length cz) := new_cell2 _ _ _ _ _ _ (by simp) rfl
    have sz64 : w62.heap.size + 1 ≤ (w62.alloc (.cells #[.slice az ZL.length cz] 26)).heap.size := by simp
    replace r1 := r1.kept kn (.inr (.inr (Nat.le_refl 0)))
    replace r2 := r2.kept kn (.inr (.inr (Nat.le_refl 0)))
    replace r4 := r4.kept kn (.inr (.inr (Nat.le_refl 0)))
    replace r6 := r6.kept kn (.inr (.inr (Nat.le_refl 0)))
    replace rd := rd.kept kn (.inr (.inr (Nat.le_refl 0)))
    replace rx := rx.kept kn (.inr (.inr (Nat.le_refl 0)))
    replace ry := ry.kept kn (.inr (.inr (Nat.le_refl 0)))
    replace rz := rz.kept kn (.inr (.inr (Nat.le_refl 0)))
    replace ca0 := kn.cell0 ca0
    replace cb0 := kn.cell0 cb0
    replace cc0 := kn.cell0 cc0
    replace cd0 := kn.cell0 cd0
    replace n60 := kn.cell0 n60
    replace n70 := kn.cell0 n70
    replace n80 := kn.cell0 n80
    replace n90 := kn.cell0 n90
    replace nd0 := kn.cell0 nd0
    replace nx0 := kn.cell0 nx0
    replace ny0 := kn.cell0 ny0
    replace K := hide ((unhide K).trans kn)
    have z65 := kn.size
    clear kn
    go_wp2_with fail
    generalize (w62.alloc (.cells #[.slice az ZL.length cz] 26)) = wn66 at *
    have mk := natAdd_impl wn66 ry rz
    obtain ⟨UB, hBU⟩ : ∃ y, ansB (okB YL && okB ZL) (val YL + val ZL).toNat = y := ⟨_, rfl⟩
    obtain ⟨UL, hLU⟩ : ∃ y, ansL (okB YL && okB ZL) (val YL + val ZL).toNat = y := ⟨_, rfl⟩
    rw [hBU, hLU] at mk
    have HU := hide (And.intro hBU hLU)
    clear hBU hLU
    refine (mk).mono ?_
    rintro e w67 ⟨vu, rfl, ru, k67⟩
    replace r1 := r1.kept k67 (.inr (.inr (Nat.le_refl 0)))
    replace r2 := r2.kept k67 (.inr (.inr (Nat.le_refl 0)))
    replace r4 := r4.kept k67 (.inr (.inr (Nat.le_refl 0)))
    replace r6 := r6.kept k67 (.inr (.inr (Nat.le_refl 0)))
    replace rd := rd.kept k67 (.inr (.inr (Nat.le_refl 0)))
    replace rx := rx.kept k67 (.inr (.inr (Nat.le_refl 0)))
    replace ry := ry.kept k67 (.inr (.inr (Nat.le_refl 0)))
    replace rz := rz.kept k67 (.inr (.inr (Nat.le_refl 0)))
    replace ca0 := k67.cell0 ca0
    replace cb0 := k67.cell0 cb0
    replace cc0 := k67.cell0 cc0
    replace cd0 := k67.cell0 cd0
    replace n60 := k67.cell0 n60
    replace n70 := k67.cell0 n70
    replace n80 := k67.cell0 n80
    replace n90 := k67.cell0 n90
    replace nd0 := k67.cell0 nd0
    replace nx0 := k67.cell0 nx0
    replace ny0 := k67.cell0 ny0
    replace nz0 := k67.cell0 nz0
    replace K := hide ((unhide K).trans k67)
    have z68 := k67.size
    clear k67
    clear mk
    obtain ⟨au, cu, hv⟩ := Row.form' ru
    subst hv
    have kn := (Kept.refl 0 0 w67).alloc (.cells #[.slice au UL.length cu] 26)
    have nu0 : (w67.alloc (.cells #[.slice au UL.length cu] 26)).cell? ⟨w67.heap.size, 0, none⟩ = some (.slice au UL.length cu) := new_cell2 _ _ _ _ _ _ (by simp) rfl
    have sz69 : w67.heap.size + 1 ≤ (w67.alloc (.cells #[.slice au UL.length cu] 26)).heap.size := by simp
    replace r1 := r1.kept kn (.inr (.inr (Nat.le_refl 0)))
    replace r2 := r2.kept kn (.inr (.inr (Nat.le_refl 0)))
    replace r4 := r4.kept kn (.inr (.inr (Nat.le_refl 0)))
    replace r6 := r6.kept kn (.inr (.inr (Nat.le_refl 0)))
    replace rd := rd.kept kn (.inr (.inr (Nat.le_refl 0)))
    replace rx := rx.kept kn (.inr (.inr (Nat.le_refl 0)))
    replace ry := ry.kept kn (.inr (.inr (Nat.le_refl 0)))
    replace rz := rz.kept kn (.inr (.inr (Nat.le_refl 0)))
    replace ru := ru.kept kn (.inr (.inr (Nat.le_refl 0)))
    replace ca0 := kn.cell0 ca0
    replace cb0 := kn.cell0 cb0
    replace cc0 := kn.cell0 cc0
    replace cd0 := kn.cell0 cd0
    replace n60 := kn.cell0 n60
    replace n70 := kn.cell0 n70
    replace n80 := kn.cell0 n80
    replace n90 := kn.cell0 n90
    replace nd0 := kn.cell0 nd0
    replace nx0 := kn.cell0 nx0
    replace ny0 := kn.cell0 ny0
    replace nz0 := kn.cell0 nz0
    replace K := hide ((unhide K).trans kn)
    have z70 := kn.size
    clear kn
    go_wp2_with fail
    generalize (w67.alloc (.cells #[.slice au UL.length cu] 26)) = wn71 at *
    try go_wp2_with fail
    go_ret
    exact ⟨rfl, (unhide K).toBelow⟩
  subst hsb
  have RS := ring_sub (unhide HO1) (unhide HO2) (unhide HS).1
  rw [(unhide HS).2] at RS
  rw [RS.2.1, RS.2.2] at md
  have HRS := hide RS.1
  clear RS
  refine (md).mono ?_
  rintro e w47 ⟨vd, rfl, rd, k47⟩
  replace r1 := r1.kept k47 (.inr (.inr (Nat.le_refl 0)))
  replace r2 := r2.kept k47 (.inr (.inr (Nat.le_refl 0)))
  replace r4 := r4.kept k47 (.inr (.inr (Nat.le_refl 0)))
  replace r6 := r6.kept k47 (.inr (.inr (Nat.le_refl 0)))
  replace ca0 := k47.cell0 ca0
  replace cb0 := k47.cell0 cb0
  replace cc0 := k47.cell0 cc0
  replace cd0 := k47.cell0 cd0
  replace n60 := k47.cell0 n60
  replace n70 := k47.cell0 n70
  replace n80 := k47.cell0 n80
  replace n90 := k47.cell0 n90
  replace K := hide ((unhide K).trans k47)
  have z48 := k47.size
  clear k47
  clear md
  obtain ⟨ad, cd, hv⟩ := Row.form' rd
  subst hv
  have kn := (Kept.refl 0 0 w47).alloc (.cells #[.slice ad xs.length cd] 26)
  have nd0 : (w47.alloc (.cells #[.slice ad xs.length cd] 26)).cell? ⟨w47.heap.size, 0, none⟩ = some (.slice ad xs.length cd) := new_cell2 _ _ _ _ _ _ (by simp) rfl
  have sz49 : w47.heap.size + 1 ≤ (w47.alloc (.cells #[.slice ad xs.length cd] 26)).heap.size := by simp
  replace r1 := r1.kept kn (.inr (.inr (Nat.le_refl 0)))
  replace r2 := r2.kept kn (.inr (.inr (Nat.le_refl 0)))
  replace r4 := r4.kept kn (.inr (.inr (Nat.le_refl 0)))
  replace r6 := r6.kept kn (.inr (.inr (Nat.le_refl 0)))
  replace rd := rd.kept kn (.inr (.inr (Nat.le_refl 0)))
  replace ca0 := kn.cell0 ca0
  replace cb0 := kn.cell0 cb0
  replace cc0 := kn.cell0 cc0
  replace cd0 := kn.cell0 cd0
  replace n60 := kn.cell0 n60
  replace n70 := kn.cell0 n70
  replace n80 := kn.cell0 n80
  replace n90 := kn.cell0 n90
  replace K := hide ((unhide K).trans kn)
  have z50 := kn.size
  clear kn
  go_wp2_with fail
  generalize (w47.alloc (.cells #[.slice ad xs.length cd] 26)) = wn51 at *
  have mk := sameNat_any wn51 rd r1
  rw [show sameL xs xs = true from decide_eq_true rfl] at mk
  refine (mk).mono ?_
  rintro e w52 ⟨rfl, k52⟩
  replace r1 := r1.kept k52 (.inr (.inr (Nat.le_refl 0)))
  replace r2 := r2.kept k52 (.inr (.inr (Nat.le_refl 0)))
  replace r4 := r4.kept k52 (.inr (.inr (Nat.le_refl 0)))
  replace r6 := r6.kept k52 (.inr (.inr (Nat.le_refl 0)))
  replace rd := rd.kept k52 (.inr (.inr (Nat.le_refl 0)))
  replace ca0 := k52.cell0 ca0
  replace cb0 := k52.cell0 cb0
  replace cc0 := k52.cell0 cc0
  replace cd0 := k52.cell0 cd0
  replace n60 := k52.cell0 n60
  replace n70 := k52.cell0 n70
  replace n80 := k52.cell0 n80
  replace n90 := k52.cell0 n90
  replace nd0 := k52.cell0 nd0
  replace K := hide ((unhide K).trans k52)
  have z53 := k52.size
  clear k52
  clear mk
  go_wp2_with fail
  have mo := ok_impl w52 r6
  rw [unhide HRS] at mo
  refine (mo).mono ?_
  rintro e w54 ⟨rfl, k54⟩
  replace r1 := r1.kept k54 (.inr (.inr (Nat.le_refl 0)))
  replace r2 := r2.kept k54 (.inr (.inr (Nat.le_refl 0)))
  replace r4 := r4.kept k54 (.inr (.inr (Nat.le_refl 0)))
  replace r6 := r6.kept k54 (.inr (.inr (Nat.le_refl 0)))
  replace rd := rd.kept k54 (.inr (.inr (Nat.le_refl 0)))
  replace ca0 := k54.cell0 ca0
  replace cb0 := k54.cell0 cb0
  replace cc0 := k54.cell0 cc0
  replace cd0 := k54.cell0 cd0
  replace n60 := k54.cell0 n60
  replace n70 := k54.cell0 n70
  replace n80 := k54.cell0 n80
  replace n90 := k54.cell0 n90
  replace nd0 := k54.cell0 nd0
  replace K := hide ((unhide K).trans k54)
  have z55 := k54.size
  clear k54
  clear mo
  go_wp2_with fail
  clear rd
  have mk := natMul_impl w54 r6 r4
  obtain ⟨XB, hBX⟩ : ∃ y, ansB (okB SL && okB cs) (val SL * val cs).toNat = y := ⟨_, rfl⟩
  obtain ⟨XL, hLX⟩ : ∃ y, ansL (okB SL && okB cs) (val SL * val cs).toNat = y := ⟨_, rfl⟩
  rw [hBX, hLX] at mk
  have HX := hide (And.intro hBX hLX)
  clear hBX hLX
  refine (mk).mono ?_
  rintro e w56 ⟨vx, rfl, rx, k56⟩
  replace r1 := r1.kept k56 (.inr (.inr (Nat.le_refl 0)))
  replace r2 := r2.kept k56 (.inr (.inr (Nat.le_refl 0)))
  replace r4 := r4.kept k56 (.inr (.inr (Nat.le_refl 0)))
  replace r6 := r6.kept k56 (.inr (.inr (Nat.le_refl 0)))
  replace ca0 := k56.cell0 ca0
  replace cb0 := k56.cell0 cb0
  replace cc0 := k56.cell0 cc0
  replace cd0 := k56.cell0 cd0
  replace n60 := k56.cell0 n60
  replace n70 := k56.cell0 n70
  replace n80 := k56.cell0 n80
  replace n90 := k56.cell0 n90
  replace nd0 := k56.cell0 nd0
  replace K := hide ((unhide K).trans k56)
  have z57 := k56.size
  clear k56
  clear mk
  obtain ⟨ax, cx, hv⟩ := Row.form' rx
  subst hv
  have kn := (Kept.refl 0 0 w56).alloc (.cells #[.slice ax XL.length cx] 26)
  have nx0 : (w56.alloc (.cells #[.slice ax XL.length cx] 26)).cell? ⟨w56.heap.size, 0, none⟩ = some (.slice ax XL.length cx) := new_cell2 _ _ _ _ _ _ (by simp) rfl
  have sz58 : w56.heap.size + 1 ≤ (w56.alloc (.cells #[.slice ax XL.length cx] 26)).heap.size := by simp
  replace r1 := r1.kept kn (.inr (.inr (Nat.le_refl 0)))
  replace r2 := r2.kept kn (.inr (.inr (Nat.le_refl 0)))
  replace r4 := r4.kept kn (.inr (.inr (Nat.le_refl 0)))
  replace r6 := r6.kept kn (.inr (.inr (Nat.le_refl 0)))
  replace rx := rx.kept kn (.inr (.inr (Nat.le_refl 0)))
  replace ca0 := kn.cell0 ca0
  replace cb0 := kn.cell0 cb0
  replace cc0 := kn.cell0 cc0
  replace cd0 := kn.cell0 cd0
  replace n60 := kn.cell0 n60
  replace n70 := kn.cell0 n70
  replace n80 := kn.cell0 n80
  replace n90 := kn.cell0 n90
  replace nd0 := kn.cell0 nd0
  replace K := hide ((unhide K).trans kn)
  have z59 := kn.size
  clear kn
  go_wp2_with fail
  generalize (w56.alloc (.cells #[.slice ax XL.length cx] 26)) = wn60 at *
  have mk := natMul_impl wn60 r1 r4
  obtain ⟨YB, hBY⟩ : ∃ y, ansB (okB xs && okB cs) (val xs * val cs).toNat = y := ⟨_, rfl⟩
  obtain ⟨YL, hLY⟩ : ∃ y, ansL (okB xs && okB cs) (val xs * val cs).toNat = y := ⟨_, rfl⟩
  rw [hBY, hLY] at mk
  have HY := hide (And.intro hBY hLY)
  clear hBY hLY
  refine (mk).mono ?_
  rintro e w61 ⟨vy, rfl, ry, k61⟩
  replace r1 := r1.kept k61 (.inr (.inr (Nat.le_refl 0)))
  replace r2 := r2.kept k61 (.inr (.inr (Nat.le_refl 0)))
  replace r4 := r4.kept k61 (.inr (.inr (Nat.le_refl 0)))
  replace r6 := r6.kept k61 (.inr (.inr (Nat.le_refl 0)))
  replace rx := rx.kept k61 (.inr (.inr (Nat.le_refl 0)))
  replace ca0 := k61.cell0 ca0
  replace cb0 := k61.cell0 cb0
  replace cc0 := k61.cell0 cc0
  replace cd0 := k61.cell0 cd0
  replace n60 := k61.cell0 n60
  replace n70 := k61.cell0 n70
  replace n80 := k61.cell0 n80
  replace n90 := k61.cell0 n90
  replace nd0 := k61.cell0 nd0
  replace nx0 := k61.cell0 nx0
  replace K := hide ((unhide K).trans k61)
  have z62 := k61.size
  clear k61
  clear mk
  obtain ⟨ay, cy, hv⟩ := Row.form' ry
  subst hv
  have kn := (Kept.refl 0 0 w61).alloc (.cells #[.slice ay YL.length cy] 26)
  have ny0 : (w61.alloc (.cells #[.slice ay YL.length cy] 26)).cell? ⟨w61.heap.size, 0, none⟩ = some (.slice ay YL.length cy) := new_cell2 _ _ _ _ _ _ (by simp) rfl
  have sz63 : w61.heap.size + 1 ≤ (w61.alloc (.cells #[.slice ay YL.length cy] 26)).heap.size := by simp
  replace r1 := r1.kept kn (.inr (.inr (Nat.le_refl 0)))
  replace r2 := r2.kept kn (.inr (.inr (Nat.le_refl 0)))
  replace r4 := r4.kept kn (.inr (.inr (Nat.le_refl 0)))
  replace r6 := r6.kept kn (.inr (.inr (Nat.le_refl 0)))
  replace rx := rx.kept kn (.inr (.inr (Nat.le_refl 0)))
  replace ry := ry.kept kn (.inr (.inr (Nat.le_refl 0)))
  replace ca0 := kn.cell0 ca0
  replace cb0 := kn.cell0 cb0
  replace cc0 := kn.cell0 cc0
  replace cd0 := kn.cell0 cd0
  replace n60 := kn.cell0 n60
  replace n70 := kn.cell0 n70
  replace n80 := kn.cell0 n80
  replace n90 := kn.cell0 n90
  replace nd0 := kn.cell0 nd0
  replace nx0 := kn.cell0 nx0
  replace K := hide ((unhide K).trans kn)
  have z64 := kn.size
  clear kn
  go_wp2_with fail
  generalize (w61.alloc (.cells #[.slice ay YL.length cy] 26)) = wn65 at *
  have mk := natMul_impl wn65 r2 r4
  obtain ⟨ZB, hBZ⟩ : ∃ y, ansB (okB ys && okB cs) (val ys * val cs).toNat = y := ⟨_, rfl⟩
  obtain ⟨ZL, hLZ⟩ : ∃ y, ansL (okB ys && okB cs) (val ys * val cs).toNat = y := ⟨_, rfl⟩
  rw [hBZ, hLZ] at mk
  have HZ := hide (And.intro hBZ hLZ)
  clear hBZ hLZ
  refine (mk).mono ?_
  rintro e w66 ⟨vz, rfl, rz, k66⟩
  replace r1 := r1.kept k66 (.inr (.inr (Nat.le_refl 0)))
  replace r2 := r2.kept k66 (.inr (.inr (Nat.le_refl 0)))
  replace r4 := r4.kept k66 (.inr (.inr (Nat.le_refl 0)))
  replace r6 := r6.kept k66 (.inr (.inr (Nat.le_refl 0)))
  replace rx := rx.kept k66 (.inr (.inr (Nat.le_refl 0)))
  replace ry := ry.kept k66 (.inr (.inr (Nat.le_refl 0)))
  replace ca0 := k66.cell0 ca0
  replace cb0 := k66.cell0 cb0
  replace cc0 := k66.cell0 cc0
  replace cd0 := k66.cell0 cd0
  replace n60 := k66.cell0 n60
  replace n70 := k66.cell0 n70
  replace n80 := k66.cell0 n80
  replace n90 := k66.cell0 n90
  replace nd0 := k66.cell0 nd0
  replace nx0 := k66.cell0 nx0
  replace ny0 := k66.cell0 ny0
  replace K := hide ((unhide K).trans k66)
  have z67 := k66.size
  clear k66
  clear mk
  obtain ⟨az, cz, hv⟩ := Row.form' rz
  subst hv
  have kn := (Kept.refl 0 0 w66).alloc (.cells #[.slice az ZL.length cz] 26)
  have nz0 : (w66.alloc (.cells #[.slice az ZL.length cz] 26)).cell? ⟨w66.heap.size, 0, none⟩ = some (.slice az ZL.length cz) := new_cell2 _ _ _ _ _ _ (by simp) rfl
  have sz68 : w66.heap.size + 1 ≤ (w66.alloc (.cells #[.slice az ZL.length cz] 26)).heap.size := by simp
  replace r1 := r1.kept kn (.inr (.inr (Nat.le_refl 0)))
  replace r2 := r2.kept kn (.inr (.inr (Nat.le_refl 0)))
  replace r4 := r4.kept kn (.inr (.inr (Nat.le_refl 0)))
  replace r6 := r6.kept kn (.inr (.inr (Nat.le_refl 0)))
  replace rx := rx.kept kn (.inr (.inr (Nat.le_refl 0)))
  replace ry := ry.kept kn (.inr (.inr (Nat.le_refl 0)))
  replace rz := rz.kept kn (.inr (.inr (Nat.le_refl 0)))
  replace ca0 := kn.cell0 ca0
  replace cb0 := kn.cell0 cb0
  replace cc0 := kn.cell0 cc0
  replace cd0 := kn.cell0 cd0
  replace n60 := kn.cell0 n60
  replace n70 := kn.cell0 n70
  replace n80 := kn.cell0 n80
  replace n90 := kn.cell0 n90
  replace nd0 := kn.cell0 nd0
  replace nx0 := kn.cell0 nx0
  replace ny0 := kn.cell0 ny0
  replace K := hide ((unhide K).trans kn)
  have z69 := kn.size
  clear kn
  go_wp2_with fail
  generalize (w66.alloc (.cells #[.slice az ZL.length cz] 26)) = wn70 at *
  have mk := natAdd_impl wn70 ry rz
  obtain ⟨UB, hBU⟩ : ∃ y, ansB (okB YL && okB ZL) (val YL + val ZL).toNat = y := ⟨_, rfl⟩
  obtain ⟨UL, hLU⟩ : ∃ y, ansL (okB YL && okB ZL) (val YL + val ZL).toNat = y := ⟨_, rfl⟩
  rw [hBU, hLU] at mk
  have HU := hide (And.intro hBU hLU)
  clear hBU hLU
  refine (mk).mono ?_
  rintro e w71 ⟨vu, rfl, ru, k71⟩
  replace r1 := r1.kept k71 (.inr (.inr (Nat.le_refl 0)))
  replace r2 := r2.kept k71 (.inr (.inr (Nat.le_refl 0)))
  replace r4 := r4.kept k71 (.inr (.inr (Nat.le_refl 0)))
  replace r6 := r6.kept k71 (.inr (.inr (Nat.le_refl 0)))
  replace rx := rx.kept k71 (.inr (.inr (Nat.le_refl 0)))
  replace ry := ry.kept k71 (.inr (.inr (Nat.le_refl 0)))
  replace rz := rz.kept k71 (.inr (.inr (Nat.le_refl 0)))
  replace ca0 := k71.cell0 ca0
  replace cb0 := k71.cell0 cb0
  replace cc0 := k71.cell0 cc0
  replace cd0 := k71.cell0 cd0
  replace n60 := k71.cell0 n60
  replace n70 := k71.cell0 n70
  replace n80 := k71.cell0 n80
  replace n90 := k71.cell0 n90
  replace nd0 := k71.cell0 nd0
  replace nx0 := k71.cell0 nx0
  replace ny0 := k71.cell0 ny0
  replace nz0 := k71.cell0 nz0
  replace K := hide ((unhide K).trans k71)
  have z72 := k71.size
  clear k71
  clear mk
  obtain ⟨au, cu, hv⟩ := Row.form' ru
  subst hv
  have HD := hide (ring_dist (unhide HO1) (unhide HO2) (unhide HS) (unhide HX) (unhide HY) (unhide HZ) (unhide HU) rfl)
  cases XB
  · have kn := (Kept.refl 0 0 w71).alloc (.cells #[.slice au UL.length cu] 26)
    have nu0 : (w71.alloc (.cells #[.slice au UL.length cu] 26)).cell? ⟨w71.heap.size, 0, none⟩ = some (.slice au UL.length cu) := new_cell2 _ _ _ _ _ _ (by simp) rfl
    have sz73 : w71.heap.size + 1 ≤ (w71.alloc (.cells #[.slice au UL.length cu] 26)).heap.size := by simp
    replace r1 := r1.kept kn (.inr (.inr (Nat.le_refl 0)))
    replace r2 := r2.kept kn (.inr (.inr (Nat.le_refl 0)))
    replace r4 := r4.kept kn (.inr (.inr (Nat.le_refl 0)))
    replace r6 := r6.kept kn (.inr (.inr (Nat.le_refl 0)))
    replace rx := rx.kept kn (.inr (.inr (Nat.le_refl 0)))
    replace ry := ry.kept kn (.inr (.inr (Nat.le_refl 0)))
    replace rz := rz.kept kn (.inr (.inr (Nat.le_refl 0)))
    replace ru := ru.kept kn (.inr (.inr (Nat.le_refl 0)))
    replace ca0 := kn.cell0 ca0
    replace cb0 := kn.cell0 cb0
    replace cc0 := kn.cell0 cc0
    replace cd0 := kn.cell0 cd0
    replace n60 := kn.cell0 n60
    replace n70 := kn.cell0 n70
    replace n80 := kn.cell0 n80
    replace n90 := kn.cell0 n90
    replace nd0 := kn.cell0 nd0
    replace nx0 := kn.cell0 nx0
    replace ny0 := kn.cell0 ny0
    replace nz0 := kn.cell0 nz0
    replace K := hide ((unhide K).trans kn)
    have z74 := kn.size
    clear kn
    go_wp2_with fail
    generalize (w71.alloc (.cells #[.slice au UL.length cu] 26)) = wn75 at *
    try go_wp2_with fail
    go_ret
    exact ⟨rfl, (unhide K).toBelow⟩
  cases YB
  · have kn := (Kept.refl 0 0 w71).alloc (.cells #[.slice au UL.length cu] 26)
    have nu0 : (w71.alloc (.cells #[.slice au UL.length cu] 26)).cell? ⟨w71.heap.size, 0, none⟩ = some (.slice au UL.length cu) := new_cell2 _ _ _ _ _ _ (by simp) rfl
    have sz73 : w71.heap.size + 1 ≤ (w71.alloc (.cells #[.slice au UL.length cu] 26)).heap.size := by simp
    replace r1 := r1.kept kn (.inr (.inr (Nat.le_refl 0)))
    replace r2 := r2.kept kn (.inr (.inr (Nat.le_refl 0)))
    replace r4 := r4.kept kn (.inr (.inr (Nat.le_refl 0)))
    replace r6 := r6.kept kn (.inr (.inr (Nat.le_refl 0)))
    replace rx := rx.kept kn (.inr (.inr (Nat.le_refl 0)))
    replace ry := ry.kept kn (.inr (.inr (Nat.le_refl 0)))
    replace rz := rz.kept kn (.inr (.inr (Nat.le_refl 0)))
    replace ru := ru.kept kn (.inr (.inr (Nat.le_refl 0)))
    replace ca0 := kn.cell0 ca0
    replace cb0 := kn.cell0 cb0
    replace cc0 := kn.cell0 cc0
    replace cd0 := kn.cell0 cd0
    replace n60 := kn.cell0 n60
    replace n70 := kn.cell0 n70
    replace n80 := kn.cell0 n80
    replace n90 := kn.cell0 n90
    replace nd0 := kn.cell0 nd0
    replace nx0 := kn.cell0 nx0
    replace ny0 := kn.cell0 ny0
    replace nz0 := kn.cell0 nz0
    replace K := hide ((unhide K).trans kn)
    have z74 := kn.size
    clear kn
    go_wp2_with fail
    generalize (w71.alloc (.cells #[.slice au UL.length cu] 26)) = wn75 at *
    try go_wp2_with fail
    go_ret
    exact ⟨rfl, (unhide K).toBelow⟩
  cases ZB
  · have kn := (Kept.refl 0 0 w71).alloc (.cells #[.slice au UL.length cu] 26)
    have nu0 : (w71.alloc (.cells #[.slice au UL.length cu] 26)).cell? ⟨w71.heap.size, 0, none⟩ = some (.slice au UL.length cu) := new_cell2 _ _ _ _ _ _ (by simp) rfl
    have sz73 : w71.heap.size + 1 ≤ (w71.alloc (.cells #[.slice au UL.length cu] 26)).heap.size := by simp
    replace r1 := r1.kept kn (.inr (.inr (Nat.le_refl 0)))
    replace r2 := r2.kept kn (.inr (.inr (Nat.le_refl 0)))
    replace r4 := r4.kept kn (.inr (.inr (Nat.le_refl 0)))
    replace r6 := r6.kept kn (.inr (.inr (Nat.le_refl 0)))
    replace rx := rx.kept kn (.inr (.inr (Nat.le_refl 0)))
    replace ry := ry.kept kn (.inr (.inr (Nat.le_refl 0)))
    replace rz := rz.kept kn (.inr (.inr (Nat.le_refl 0)))
    replace ru := ru.kept kn (.inr (.inr (Nat.le_refl 0)))
    replace ca0 := kn.cell0 ca0
    replace cb0 := kn.cell0 cb0
    replace cc0 := kn.cell0 cc0
    replace cd0 := kn.cell0 cd0
    replace n60 := kn.cell0 n60
    replace n70 := kn.cell0 n70
    replace n80 := kn.cell0 n80
    replace n90 := kn.cell0 n90
    replace nd0 := kn.cell0 nd0
    replace nx0 := kn.cell0 nx0
    replace ny0 := kn.cell0 ny0
    replace nz0 := kn.cell0 nz0
    replace K := hide ((unhide K).trans kn)
    have z74 := kn.size
    clear kn
    go_wp2_with fail
    generalize (w71.alloc (.cells #[.slice au UL.length cu] 26)) = wn75 at *
    try go_wp2_with fail
    go_ret
    exact ⟨rfl, (unhide K).toBelow⟩
  cases UB
  · have kn := (Kept.refl 0 0 w71).alloc (.cells #[.slice au UL.length cu] 26)
    have nu0 : (w71.alloc (.cells #[.slice au UL.length cu] 26)).cell? ⟨w71.heap.size, 0, none⟩ = some (.slice au UL.length cu) := new_cell2 _ _ _ _ _ _ (by simp) rfl
    have sz73 : w71.heap.size + 1 ≤ (w71.alloc (.cells #[.slice au UL.length cu] 26)).heap.size := by simp
    replace r1 := r1.kept kn (.inr (.inr (Nat.le_refl 0)))
    replace r2 := r2.kept kn (.inr (.inr (Nat.le_refl 0)))
    replace r4 := r4.kept kn (.inr (.inr (Nat.le_refl 0)))
    replace r6 := r6.kept kn (.inr (.inr (Nat.le_refl 0)))
    replace rx := rx.kept kn (.inr (.inr (Nat.le_refl 0)))
    replace ry := ry.kept kn (.inr (.inr (Nat.le_refl 0)))
    replace rz := rz.kept kn (.inr (.inr (Nat.le_refl 0)))
    replace ru := ru.kept kn (.inr (.inr (Nat.le_refl 0)))
    replace ca0 := kn.cell0 ca0
    replace cb0 := kn.cell0 cb0
    replace cc0 := kn.cell0 cc0
    replace cd0 := kn.cell0 cd0
    replace n60 := kn.cell0 n60
    replace n70 := kn.cell0 n70
    replace n80 := kn.cell0 n80
    replace n90 := kn.cell0 n90
    replace nd0 := kn.cell0 nd0
    replace nx0 := kn.cell0 nx0
    replace ny0 := kn.cell0 ny0
    replace nz0 := kn.cell0 nz0
    replace K := hide ((unhide K).trans kn)
    have z74 := kn.size
    clear kn
    go_wp2_with fail
    generalize (w71.alloc (.cells #[.slice au UL.length cu] 26)) = wn75 at *
    try go_wp2_with fail
    go_ret
    exact ⟨rfl, (unhide K).toBelow⟩
  have hxu := unhide HD rfl rfl rfl rfl
  subst hxu
  have kn := (Kept.refl 0 0 w71).alloc (.cells #[.slice au XL.length cu] 26)
  have nu0 : (w71.alloc (.cells #[.slice au XL.length cu] 26)).cell? ⟨w71.heap.size, 0, none⟩ = some (.slice au XL.length cu) := new_cell2 _ _ _ _ _ _ (by simp) rfl
  have sz73 : w71.heap.size + 1 ≤ (w71.alloc (.cells #[.slice au XL.length cu] 26)).heap.size := by simp
  replace r1 := r1.kept kn (.inr (.inr (Nat.le_refl 0)))
  replace r2 := r2.kept kn (.inr (.inr (Nat.le_refl 0)))
  replace r4 := r4.kept kn (.inr (.inr (Nat.le_refl 0)))
  replace r6 := r6.kept kn (.inr (.inr (Nat.le_refl 0)))
  replace rx := rx.kept kn (.inr (.inr (Nat.le_refl 0)))
  replace ry := ry.kept kn (.inr (.inr (Nat.le_refl 0)))
  replace rz := rz.kept kn (.inr (.inr (Nat.le_refl 0)))
  replace ru := ru.kept kn (.inr (.inr (Nat.le_refl 0)))
  replace ca0 := kn.cell0 ca0
  replace cb0 := kn.cell0 cb0
  replace cc0 := kn.cell0 cc0
  replace cd0 := kn.cell0 cd0
  replace n60 := kn.cell0 n60
  replace n70 := kn.cell0 n70
  replace n80 := kn.cell0 n80
  replace n90 := kn.cell0 n90
  replace nd0 := kn.cell0 nd0
  replace nx0 := kn.cell0 nx0
  replace ny0 := kn.cell0 ny0
  replace nz0 := kn.cell0 nz0
  replace K := hide ((unhide K).trans kn)
  have z74 := kn.size
  clear kn
  go_wp2_with fail
  generalize (w71.alloc (.cells #[.slice au XL.length cu] 26)) = wn75 at *
  have mk := sameNat_any wn75 rx ru
  rw [show sameL XL XL = true from decide_eq_true rfl] at mk
  refine (mk).mono ?_
  rintro e w76 ⟨rfl, k76⟩
  replace r1 := r1.kept k76 (.inr (.inr (Nat.le_refl 0)))
  replace r2 := r2.kept k76 (.inr (.inr (Nat.le_refl 0)))
  replace r4 := r4.kept k76 (.inr (.inr (Nat.le_refl 0)))
  replace r6 := r6.kept k76 (.inr (.inr (Nat.le_refl 0)))
  replace rx := rx.kept k76 (.inr (.inr (Nat.le_refl 0)))
  replace ry := ry.kept k76 (.inr (.inr (Nat.le_refl 0)))
  replace rz := rz.kept k76 (.inr (.inr (Nat.le_refl 0)))
  replace ru := ru.kept k76 (.inr (.inr (Nat.le_refl 0)))
  replace ca0 := k76.cell0 ca0
  replace cb0 := k76.cell0 cb0
  replace cc0 := k76.cell0 cc0
  replace cd0 := k76.cell0 cd0
  replace n60 := k76.cell0 n60
  replace n70 := k76.cell0 n70
  replace n80 := k76.cell0 n80
  replace n90 := k76.cell0 n90
  replace nd0 := k76.cell0 nd0
  replace nx0 := k76.cell0 nx0
  replace ny0 := k76.cell0 ny0
  replace nz0 := k76.cell0 nz0
  replace nu0 := k76.cell0 nu0
  replace K := hide ((unhide K).trans k76)
  have z77 := k76.size
  clear k76
  clear mk
  try go_wp2_with fail
  go_ret
  exact ⟨rfl, (unhide K).toBelow⟩

end Go.Proofs.Ytkdapefddhbjdaa
