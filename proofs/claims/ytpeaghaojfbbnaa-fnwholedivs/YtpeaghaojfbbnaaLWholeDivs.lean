/-
  The walk of the law FnWholeDivs: it returns true at every code.
-/
import Derived.Test.YtpeaghaojfbbnaaDrawE
import Derived.Test.YtpeaghaojfbbnaaLawN
import Derived.Test.YtpeaghaojfbbnaaWd4
import Derived.Test.YtpeaghaojfbbnaaIWMul
import Derived.Test.YtpeaghaojfbbnaaIWAdd
import Derived.Test.YtpeaghaojfbbnaaBF
namespace Go.Proofs.Ytpeaghaojfbbnaa
open Go.RowKit
set_option linter.unusedVariables false
set_option maxRecDepth 8000
set_option linter.unusedSimpArgs false

theorem wok_make {x : Int} (h : (wlm x).length ≤ 100) : wokB (wsg x) (wlm x) = true := by
  unfold wokB
  rw [(okB_iff _).2 ⟨h, limbs_nrm _⟩, Bool.true_and]
  cases hs : wsg x
  · rfl
  · have : 0 < (wlm x).length := by
      have e := limbs_pos x.natAbs
      unfold wsg at hs
      have hx := of_decide_eq_true hs
      rw [decide_eq_true (show 0 < x.natAbs by omega)] at e
      exact of_decide_eq_true e
    simpa using this

theorem wok_limbs {n : Nat} (h : (limbs n).length ≤ 100) : wokB false (limbs n) = true := by
  unfold wokB
  rw [(okB_iff _).2 ⟨h, limbs_nrm _⟩]
  rfl

theorem wval_sgn (s : Bool) (n : Nat) : wval (s && decide (0 < (limbs n).length)) (limbs n) = if s = true then -(n : Int) else (n : Int) := by
  rw [limbs_pos]
  unfold wval
  rw [limbs_val]
  cases s
  · simp
  · by_cases h : n = 0
    · subst h; simp
    · simp [show 0 < n by omega]

theorem wd_quo {s : Bool} {xs ys : List Int} (hx : 0 ≤ val xs) (hy : 0 < val ys) : ∃ n r : Nat, wdQ s xs ys = limbs n ∧ wdR s xs ys = limbs r ∧ (r : Int) < val ys ∧ (s = false → (n : Int) * val ys + r = val xs) ∧ (s = true → (n : Int) * val ys = val xs + r) ∧ ((n : Int) * val ys ≤ val xs ∨ (n : Int) * val ys ≤ val ys ∨ (n : Int) * val ys ≤ 2 * val xs) ∧ (n : Int) ≤ val xs + 1 := by
  have hs := Int.mul_ediv_add_emod (val xs) (val ys)
  have q0 := Int.ediv_nonneg hx (Int.le_of_lt hy)
  have r0 := Int.emod_nonneg (val xs) (show val ys ≠ 0 by omega)
  have r1 := Int.emod_lt_of_pos (val xs) hy
  have ql : val xs / val ys ≤ val xs := Int.ediv_le_self _ hx
  rw [Int.mul_comm] at hs
  unfold wdQ wdR
  by_cases ho : wdO s xs ys = true
  · rw [if_pos ho, if_pos ho]
    unfold wdO at ho
    rw [Bool.and_eq_true, decide_eq_true_eq] at ho
    have en : ((val xs / val ys + 1).toNat : Int) = val xs / val ys + 1 := by omega
    have er : ((val ys - val xs % val ys).toNat : Int) = val ys - val xs % val ys := by omega
    refine ⟨_, _, rfl, rfl, by omega, (fun h => by rw [h] at ho; exact absurd ho.1 (by decide)), fun _ => ?_, ?_, by omega⟩
    · rw [en, er, Int.add_mul]; omega
    · rw [en, Int.add_mul]
      by_cases hlt : val xs < val ys
      · right; left
        have e0 : val xs / val ys = 0 := Int.ediv_eq_zero_of_lt hx hlt
        rw [e0]; omega
      · right; right; omega
  · rw [if_neg ho, if_neg ho]
    have en : ((val xs / val ys).toNat : Int) = val xs / val ys := by omega
    have er : ((val xs % val ys).toNat : Int) = val xs % val ys := by omega
    refine ⟨_, _, rfl, rfl, by omega, fun _ => by rw [en, er]; omega, fun h => ?_, .inl (by rw [en]; omega), by omega⟩
    have h0 : val xs % val ys = 0 := by
      unfold wdO at ho
      rw [h] at ho
      simpa using ho
    rw [en, er, h0]
    omega

theorem wd_pow {xs : List Int} (h : Lim xs) {j : Nat} (l : xs.length ≤ j) : val xs < 65536 ^ j := Int.lt_of_lt_of_le (val_lt h) (pow_mono l)

theorem wd_big {s1 s2 : Bool} {xs ys : List Int} (h1 : wokB s1 xs = true) (h2 : wokB s2 ys = true) (hz : ¬ ys.length = 0) (hB : wvB s1 s2 xs ys = false) : 100 ≤ xs.length := by
  obtain ⟨-, -, lx, hx⟩ := wok_int h1
  obtain ⟨-, -, ly, hy⟩ := wok_int h2
  obtain ⟨n, r, e1, -, -, -, -, -, hn⟩ := wd_quo (s := s1) (val_nonneg hx.1) (nrm_pos hy hz)
  rcases Nat.lt_or_ge xs.length 100 with h | h
  · exfalso
    have hp := wd_pow hx.1 (show xs.length ≤ 99 by omega)
    have hl : (limbs n).length ≤ 100 := (limbs_length_le _ _).2 (by
      have e : (65536 : Int) ^ 100 = 65536 ^ 99 * 65536 := Int.pow_succ ..
      rw [e]
      generalize (65536 : Int) ^ 99 = T at *
      omega)
    unfold wvB at hB
    rw [h1, h2, decide_eq_true hz, e1, decide_eq_true hl] at hB
    cases hB
  · exact h

theorem wd_law {s1 s2 : Bool} {xs ys : List Int} (h1 : wokB s1 xs = true) (h2 : wokB s2 ys = true) (hz : ¬ ys.length = 0) (hB : wvB s1 s2 xs ys = true) :
    (wokB (wvS s1 s2 xs ys) (wvQ s1 s2 xs ys) && wokB s2 ys) = true ∧
    (ansWB true (wval (wvS s1 s2 xs ys) (wvQ s1 s2 xs ys) * wval s2 ys) = false → 99 ≤ xs.length) ∧
    (ansWB true (wval (wvS s1 s2 xs ys) (wvQ s1 s2 xs ys) * wval s2 ys) = true →
      ansWB (wokB (ansWS true (wval (wvS s1 s2 xs ys) (wvQ s1 s2 xs ys) * wval s2 ys)) (ansWL true (wval (wvS s1 s2 xs ys) (wvQ s1 s2 xs ys) * wval s2 ys)) && wokB false (wvR s1 s2 xs ys)) (wval (ansWS true (wval (wvS s1 s2 xs ys) (wvQ s1 s2 xs ys) * wval s2 ys)) (ansWL true (wval (wvS s1 s2 xs ys) (wvQ s1 s2 xs ys) * wval s2 ys)) + wval false (wvR s1 s2 xs ys)) = true ∧
      ansWS (wokB (ansWS true (wval (wvS s1 s2 xs ys) (wvQ s1 s2 xs ys) * wval s2 ys)) (ansWL true (wval (wvS s1 s2 xs ys) (wvQ s1 s2 xs ys) * wval s2 ys)) && wokB false (wvR s1 s2 xs ys)) (wval (ansWS true (wval (wvS s1 s2 xs ys) (wvQ s1 s2 xs ys) * wval s2 ys)) (ansWL true (wval (wvS s1 s2 xs ys) (wvQ s1 s2 xs ys) * wval s2 ys)) + wval false (wvR s1 s2 xs ys)) = s1 ∧
      ansWL (wokB (ansWS true (wval (wvS s1 s2 xs ys) (wvQ s1 s2 xs ys) * wval s2 ys)) (ansWL true (wval (wvS s1 s2 xs ys) (wvQ s1 s2 xs ys) * wval s2 ys)) && wokB false (wvR s1 s2 xs ys)) (wval (ansWS true (wval (wvS s1 s2 xs ys) (wvQ s1 s2 xs ys) * wval s2 ys)) (ansWL true (wval (wvS s1 s2 xs ys) (wvQ s1 s2 xs ys) * wval s2 ys)) + wval false (wvR s1 s2 xs ys)) = xs) ∧
    cmpN (wvR s1 s2 xs ys) ys = -1 := by
  obtain ⟨y1, y2, y3⟩ := wv_yes hB
  have lq : (wdQ s1 xs ys).length ≤ 100 := by
    unfold wvB at hB
    simp only [Bool.and_eq_true, decide_eq_true_eq] at hB
    exact hB.2
  obtain ⟨-, -, lx, hx⟩ := wok_int h1
  obtain ⟨-, -, ly, hy⟩ := wok_int h2
  have lr := wdR_len s1 (xs := xs) (nrm_pos hy hz) hy
  have hx0 := val_nonneg hx.1
  have hy0 := nrm_pos hy hz
  rw [y1, y2, y3]
  obtain ⟨n, r, e1, e2, hr, hf, ht, hb, -⟩ := wd_quo (s := s1) hx0 hy0
  rw [e1] at lq ⊢
  rw [e2] at lr ⊢
  obtain ⟨P, hP⟩ : ∃ P : Int, wval ((s1 != s2) && decide (0 < (limbs n).length)) (limbs n) * wval s2 ys = P := ⟨_, rfl⟩
  rw [hP]
  have eP : P = if s1 = true then -((n : Int) * val ys) else (n : Int) * val ys := by
    rw [← hP, wval_sgn]
    unfold wval
    cases s1 <;> cases s2 <;> simp [Int.neg_mul, Int.mul_neg]
  have eA : P + r = wval s1 xs := by
    rw [eP]
    unfold wval
    cases s1
    · have := hf rfl; simp; omega
    · have := ht rfl; simp; omega
  have np : 0 ≤ (n : Int) * val ys := Int.mul_nonneg (by omega) (by omega)
  have aP : (P.natAbs : Int) = (n : Int) * val ys := by
    rw [eP]
    generalize (n : Int) * val ys = T at *
    cases s1 <;> simp <;> omega
  obtain ⟨A, w1, w2, w3, w4⟩ := wok_of h1
  have okr := wok_limbs (n := r) (by omega)
  have vr : wval false (limbs r) = (r : Int) := by unfold wval; rw [if_neg (by decide), limbs_val]
  refine ⟨?_, fun h => ?_, fun h => ?_, ?_⟩
  · rw [h2, Bool.and_true]
    unfold wokB
    rw [(okB_iff _).2 ⟨lq, limbs_nrm _⟩, Bool.true_and]
    cases s1 <;> cases s2 <;> simp
  · rcases Nat.lt_or_ge xs.length 99 with hl | hl
    · exfalso
      rw [ansWB_yes rfl] at h
      have h' := of_decide_eq_false h
      apply h'
      unfold wlm
      refine (limbs_length_le _ _).2 ?_
      rw [aP]
      have p1 := wd_pow hx.1 (show xs.length ≤ 99 by omega)
      have p2 := wd_pow hy.1 ly
      have e : (65536 : Int) ^ 100 = 65536 ^ 99 * 65536 := Int.pow_succ ..
      rcases hb with hb | hb | hb
      · rw [e]; generalize (65536 : Int) ^ 99 = T at *; omega
      · omega
      · rw [e]; generalize (65536 : Int) ^ 99 = T at *; omega
    · exact hl
  · have hl : (wlm P).length ≤ 100 := by rw [ansWB_yes rfl] at h; exact of_decide_eq_true h
    have eS : ansWS true P = wsg P := by unfold ansWS; rw [h]; rfl
    have eL : ansWL true P = wlm P := by unfold ansWL; rw [if_pos h]
    rw [eS, eL, wok_make hl, okr, wval_int, vr, eA, w1]
    have hB2 : ansWB (true && true) A = true := by rw [ansWB_yes (show (true && true) = true from rfl)]; exact decide_eq_true w4
    refine ⟨hB2, ?_, ?_⟩
    · unfold ansWS; rw [hB2, Bool.true_and, ← w2]
    · unfold ansWL; rw [if_pos hB2, ← w3]
  · have o1 : okB (limbs r) = true := (okB_iff _).2 ⟨by omega, limbs_nrm _⟩
    have o2 : okB ys = true := (okB_iff _).2 ⟨ly, hy⟩
    rw [cmpN_ok o1 o2, limbs_val]
    exact cmpI_lt hr

set_option maxHeartbeats 1000000 in
theorem sameWhole_any {b1 b2 : Bool} {l1 h1 l2 h2 : Nat} {v1 v2 : Value} {xs ys : List Int} (s1 s2 : Bool) (w : World) (r1 : Row .i64 b1 l1 h1 w v1 xs) (r2 : Row .i64 b2 l2 h2 w v2 ys) :
    Calls Try.prog 9 #[.agg #[.bool s1, v1], .agg #[.bool s2, v2]] w fun e w' => e = .returned (.bool (decide (s1 = s2) && sameL xs ys)) ∧ Kept 0 0 w w' := by
  have k0 : Kept 0 0 w ((w.alloc (.cells #[.bool s1, v1] 27)).alloc (.cells #[.bool s2, v2] 27)) := (((Kept.refl 0 0 w).alloc (.cells #[.bool s1, v1] 27)).alloc (.cells #[.bool s2, v2] 27))
  have p0 : ((w.alloc (.cells #[.bool s1, v1] 27)).alloc (.cells #[.bool s2, v2] 27)).cell? ⟨w.heap.size, 0, none⟩ = some (.bool s1) := old_cell _ (new_cell2 _ _ _ _ _ _ (by simp) rfl)
  have p1 : ((w.alloc (.cells #[.bool s1, v1] 27)).alloc (.cells #[.bool s2, v2] 27)).cell? ⟨w.heap.size, 1, none⟩ = some (v1) := old_cell _ (new_cell2 _ _ _ _ _ _ (by simp) rfl)
  have t0 : ((w.alloc (.cells #[.bool s1, v1] 27)).alloc (.cells #[.bool s2, v2] 27)).cell? ⟨w.heap.size + 1, 0, none⟩ = some (.bool s2) := new_cell2 _ _ _ _ _ _ (by simp) rfl
  have t1 : ((w.alloc (.cells #[.bool s1, v1] 27)).alloc (.cells #[.bool s2, v2] 27)).cell? ⟨w.heap.size + 1, 1, none⟩ = some (v2) := new_cell2 _ _ _ _ _ _ (by simp) rfl
  replace r1 := r1.kept k0 (by omega)
  replace r2 := r2.kept k0 (by omega)
  have s0 : ((w.alloc (.cells #[.bool s1, v1] 27)).alloc (.cells #[.bool s2, v2] 27)).heap.size = w.heap.size + 2 := by simp
  obtain ⟨a1, c1, hv⟩ := r1.form'
  subst hv
  obtain ⟨a2, c2, hv⟩ := r2.form'
  subst hv
  have K := hide (k0)
  clear k0
  have S0 := hide s0
  clear s0
  obtain ⟨BB, hBB⟩ : ∃ y, sameL xs ys = y := ⟨_, rfl⟩
  rw [hBB]
  have HBB := hide hBB
  clear hBB
  cases s1 <;> cases s2
  · go_enter Try.func9, Try.ntmps9
    go_wp2_with fail
    generalize ((w.alloc (.cells #[.bool false, .slice a1 xs.length c1] 27)).alloc (.cells #[.bool false, .slice a2 ys.length c2] 27)) = W at *
    have mk := sameNat_any W r1 r2
    rw [unhide HBB] at mk
    refine (mk).mono ?_
    rintro e w1 ⟨rfl, k1⟩
    replace r1 := r1.kept k1 (.inr (.inr (Nat.le_refl 0)))
    replace r2 := r2.kept k1 (.inr (.inr (Nat.le_refl 0)))
    replace p0 := k1.cell0 p0
    replace p1 := k1.cell0 p1
    replace t0 := k1.cell0 t0
    replace t1 := k1.cell0 t1
    replace K := hide ((unhide K).trans k1)
    have z2 := k1.size
    clear k1
    clear mk
    go_wp2_with fail
    go_ret
    exact ⟨by simp, unhide K⟩
  · go_enter Try.func9, Try.ntmps9
    go_wp2_with fail
    go_ret
    exact ⟨by simp, unhide K⟩
  · go_enter Try.func9, Try.ntmps9
    go_wp2_with fail
    go_ret
    exact ⟨by simp, unhide K⟩
  · go_enter Try.func9, Try.ntmps9
    go_wp2_with fail
    generalize ((w.alloc (.cells #[.bool true, .slice a1 xs.length c1] 27)).alloc (.cells #[.bool true, .slice a2 ys.length c2] 27)) = W at *
    have mk := sameNat_any W r1 r2
    rw [unhide HBB] at mk
    refine (mk).mono ?_
    rintro e w1 ⟨rfl, k1⟩
    replace r1 := r1.kept k1 (.inr (.inr (Nat.le_refl 0)))
    replace r2 := r2.kept k1 (.inr (.inr (Nat.le_refl 0)))
    replace p0 := k1.cell0 p0
    replace p1 := k1.cell0 p1
    replace t0 := k1.cell0 t0
    replace t1 := k1.cell0 t1
    replace K := hide ((unhide K).trans k1)
    have z2 := k1.size
    clear k1
    clear mk
    go_wp2_with fail
    go_ret
    exact ⟨by simp, unhide K⟩

set_option maxHeartbeats 8000000 in
theorem law_WholeDivs {v : Value} {zs : List Int} {w : World} (r : Row .u8 false 0 w.heap.size w v zs) (hb0 : ∀ z ∈ zs, (Lit.int .u8 z).wf = true) :
    Calls Try.prog 3 #[v] w fun e w' => e = .returned (.bool true) ∧ Below w.heap.size w w' := by
  have hb := bytes_of_wf hb0
  clear hb0
  have hB := hide hb
  clear hb
  have s0 : w.heap.size = w.heap.size := rfl
  obtain ⟨a0, c0, hv⟩ := r.form'
  subst hv
  have K := hide (Kept.refl 0 0 w)
  have S0 := hide s0
  clear s0
  go_enter Try.func3, Try.ntmps3
  go_wp2_with fail
  refine (drawWD_any _ r (unhide hB)).mono ?_
  rintro e w1 ⟨v1, s1, xs, v2, s2, ys, rfl, r1, r2, k1⟩
  replace r := r.kept k1 (.inr (.inr (Nat.le_refl 0)))
  replace K := hide ((unhide K).trans k1)
  have z2 := k1.size
  clear k1
  clear r
  obtain ⟨a1, c1, hv⟩ := Row.form' r1
  subst hv
  obtain ⟨a2, c2, hv⟩ := Row.form' r2
  subst hv
  have kn := ((Kept.refl 0 0 w1).alloc (.cells #[.bool s1, .slice a1 xs.length c1] 27)).alloc (.cells #[.bool s2, .slice a2 ys.length c2] 27)
  have ca0 : ((w1.alloc (.cells #[.bool s1, .slice a1 xs.length c1] 27)).alloc (.cells #[.bool s2, .slice a2 ys.length c2] 27)).cell? ⟨w1.heap.size, 0, none⟩ = some (.bool s1) := old_cell _ (new_cell2 _ _ _ _ _ _ (by simp) rfl)
  have ca1 : ((w1.alloc (.cells #[.bool s1, .slice a1 xs.length c1] 27)).alloc (.cells #[.bool s2, .slice a2 ys.length c2] 27)).cell? ⟨w1.heap.size, 1, none⟩ = some (.slice a1 xs.length c1) := old_cell _ (new_cell2 _ _ _ _ _ _ (by simp) rfl)
  have cb0 : ((w1.alloc (.cells #[.bool s1, .slice a1 xs.length c1] 27)).alloc (.cells #[.bool s2, .slice a2 ys.length c2] 27)).cell? ⟨w1.heap.size + 1, 0, none⟩ = some (.bool s2) := new_cell2 _ _ _ _ _ _ (by simp) rfl
  have cb1 : ((w1.alloc (.cells #[.bool s1, .slice a1 xs.length c1] 27)).alloc (.cells #[.bool s2, .slice a2 ys.length c2] 27)).cell? ⟨w1.heap.size + 1, 1, none⟩ = some (.slice a2 ys.length c2) := new_cell2 _ _ _ _ _ _ (by simp) rfl
  replace r1 := r1.kept kn (.inr (.inr (Nat.le_refl 0)))
  replace r2 := r2.kept kn (.inr (.inr (Nat.le_refl 0)))
  replace K := hide ((unhide K).trans kn)
  have z4 := kn.size
  clear kn
  go_wp2_with fail
  generalize ((w1.alloc (.cells #[.bool s1, .slice a1 xs.length c1] 27)).alloc (.cells #[.bool s2, .slice a2 ys.length c2] 27)) = wt3 at *
  have mk := wDiv_impl s1 s2 wt3 r1 r2
  obtain ⟨BD, hBD⟩ : ∃ y, wvB s1 s2 xs ys = y := ⟨_, rfl⟩
  obtain ⟨SD, hSD⟩ : ∃ y, wvS s1 s2 xs ys = y := ⟨_, rfl⟩
  obtain ⟨QD, hQD⟩ : ∃ y, wvQ s1 s2 xs ys = y := ⟨_, rfl⟩
  obtain ⟨RD, hRD⟩ : ∃ y, wvR s1 s2 xs ys = y := ⟨_, rfl⟩
  rw [hBD, hSD, hQD, hRD] at mk
  have HBD := hide hBD
  have HD := hide (And.intro hSD (And.intro hQD hRD))
  clear hBD hSD hQD hRD
  refine (mk).mono ?_
  rintro e w5 ⟨v3, v4, mm, rfl, r3, r4, -, -, k5⟩
  replace r1 := r1.kept k5 (.inr (.inr (Nat.le_refl 0)))
  replace r2 := r2.kept k5 (.inr (.inr (Nat.le_refl 0)))
  replace ca0 := k5.cell0 ca0
  replace ca1 := k5.cell0 ca1
  replace cb0 := k5.cell0 cb0
  replace cb1 := k5.cell0 cb1
  replace K := hide ((unhide K).trans k5)
  have z6 := k5.size
  clear k5
  clear mk
  obtain ⟨a3, c3, hv⟩ := Row.form' r3
  subst hv
  obtain ⟨a4, c4, hv⟩ := Row.form' r4
  subst hv
  have kn := ((Kept.refl 0 0 w5).alloc (.cells #[.bool SD, .slice a3 QD.length c3] 27)).alloc (.cells #[.bool false, .slice a4 RD.length c4] 27)
  have cc0 : ((w5.alloc (.cells #[.bool SD, .slice a3 QD.length c3] 27)).alloc (.cells #[.bool false, .slice a4 RD.length c4] 27)).cell? ⟨w5.heap.size, 0, none⟩ = some (.bool SD) := old_cell _ (new_cell2 _ _ _ _ _ _ (by simp) rfl)
  have cc1 : ((w5.alloc (.cells #[.bool SD, .slice a3 QD.length c3] 27)).alloc (.cells #[.bool false, .slice a4 RD.length c4] 27)).cell? ⟨w5.heap.size, 1, none⟩ = some (.slice a3 QD.length c3) := old_cell _ (new_cell2 _ _ _ _ _ _ (by simp) rfl)
  have cd0 : ((w5.alloc (.cells #[.bool SD, .slice a3 QD.length c3] 27)).alloc (.cells #[.bool false, .slice a4 RD.length c4] 27)).cell? ⟨w5.heap.size + 1, 0, none⟩ = some (.bool false) := new_cell2 _ _ _ _ _ _ (by simp) rfl
  have cd1 : ((w5.alloc (.cells #[.bool SD, .slice a3 QD.length c3] 27)).alloc (.cells #[.bool false, .slice a4 RD.length c4] 27)).cell? ⟨w5.heap.size + 1, 1, none⟩ = some (.slice a4 RD.length c4) := new_cell2 _ _ _ _ _ _ (by simp) rfl
  replace r1 := r1.kept kn (.inr (.inr (Nat.le_refl 0)))
  replace r2 := r2.kept kn (.inr (.inr (Nat.le_refl 0)))
  replace r3 := r3.kept kn (.inr (.inr (Nat.le_refl 0)))
  replace r4 := r4.kept kn (.inr (.inr (Nat.le_refl 0)))
  replace ca0 := kn.cell0 ca0
  replace ca1 := kn.cell0 ca1
  replace cb0 := kn.cell0 cb0
  replace cb1 := kn.cell0 cb1
  replace K := hide ((unhide K).trans kn)
  have z8 := kn.size
  clear kn
  go_wp2_with fail
  generalize ((w5.alloc (.cells #[.bool SD, .slice a3 QD.length c3] 27)).alloc (.cells #[.bool false, .slice a4 RD.length c4] 27)) = wt7 at *
  have mo := wok_spec s1 wt7 r1
  refine (mo).mono ?_
  rintro e w9 ⟨rfl, k9⟩
  replace r1 := r1.kept k9 (.inr (.inr (Nat.le_refl 0)))
  replace r2 := r2.kept k9 (.inr (.inr (Nat.le_refl 0)))
  replace r3 := r3.kept k9 (.inr (.inr (Nat.le_refl 0)))
  replace r4 := r4.kept k9 (.inr (.inr (Nat.le_refl 0)))
  replace ca0 := k9.cell0 ca0
  replace ca1 := k9.cell0 ca1
  replace cb0 := k9.cell0 cb0
  replace cb1 := k9.cell0 cb1
  replace cc0 := k9.cell0 cc0
  replace cc1 := k9.cell0 cc1
  replace cd0 := k9.cell0 cd0
  replace cd1 := k9.cell0 cd1
  replace K := hide ((unhide K).trans k9)
  have z10 := k9.size
  clear k9
  clear mo
  cases ho1 : wokB s1 xs
  · have hd : BD = false := by rw [← unhide HBD]; unfold wvB; rw [ho1]; rfl
    subst hd
    clear ho1
    try go_wp2_with fail
    go_ret
    exact ⟨rfl, (unhide K).toBelow⟩
  have HO1 := hide ho1
  clear ho1
  go_wp2_with fail
  have mo := wok_spec s2 w9 r2
  refine (mo).mono ?_
  rintro e w11 ⟨rfl, k11⟩
  replace r1 := r1.kept k11 (.inr (.inr (Nat.le_refl 0)))
  replace r2 := r2.kept k11 (.inr (.inr (Nat.le_refl 0)))
  replace r3 := r3.kept k11 (.inr (.inr (Nat.le_refl 0)))
  replace r4 := r4.kept k11 (.inr (.inr (Nat.le_refl 0)))
  replace ca0 := k11.cell0 ca0
  replace ca1 := k11.cell0 ca1
  replace cb0 := k11.cell0 cb0
  replace cb1 := k11.cell0 cb1
  replace cc0 := k11.cell0 cc0
  replace cc1 := k11.cell0 cc1
  replace cd0 := k11.cell0 cd0
  replace cd1 := k11.cell0 cd1
  replace K := hide ((unhide K).trans k11)
  have z12 := k11.size
  clear k11
  clear mo
  cases ho2 : wokB s2 ys
  · have hd : BD = false := by rw [← unhide HBD]; unfold wvB; rw [ho2, Bool.and_false]; rfl
    subst hd
    clear ho2
    try go_wp2_with fail
    go_ret
    exact ⟨rfl, (unhide K).toBelow⟩
  have HO2 := hide ho2
  clear ho2
  by_cases hz : ys.length = 0
  · have hd : BD = false := by rw [← unhide HBD]; unfold wvB; rw [decide_eq_false (by omega)]; simp
    subst hd
    have hl : ((ys.length : Int) == 0) = true := beq_iff_eq.2 (by omega)
    clear hz
    try go_wp2_with fail
    go_ret
    exact ⟨rfl, (unhide K).toBelow⟩
  have hl : ((ys.length : Int) == 0) = false := beq_eq_false_iff_ne.2 (by omega)
  have HZ := hide hz
  clear hz
  cases BD
  · have hg : (100 : Int) ≤ (xs.length : Int) := by
      have := wd_big (unhide HO1) (unhide HO2) (unhide HZ) (unhide HBD)
      omega
    try go_wp2_with fail
    go_ret
    exact ⟨rfl, (unhide K).toBelow⟩
  go_wp2_with fail
  have mm := wMul_impl SD s2 w11 r3 r2
  obtain ⟨P, hP⟩ : ∃ y, wval SD QD * wval s2 ys = y := ⟨_, rfl⟩
  have WD := wd_law (unhide HO1) (unhide HO2) (unhide HZ) (unhide HBD)
  rw [(unhide HD).1, (unhide HD).2.1, (unhide HD).2.2, hP] at WD
  obtain ⟨d1, d2, d3, d6⟩ := WD
  rw [d1, hP] at mm
  obtain ⟨PB, hPB⟩ : ∃ y, ansWB true P = y := ⟨_, rfl⟩
  obtain ⟨PS, hPS⟩ : ∃ y, ansWS true P = y := ⟨_, rfl⟩
  obtain ⟨PL, hPL⟩ : ∃ y, ansWL true P = y := ⟨_, rfl⟩
  rw [hPB, hPS, hPL] at mm
  rw [hPB] at d2 d3
  rw [hPS, hPL] at d3
  have D2 := hide d2
  have D3 := hide d3
  clear hP d1 d2 d3 hPB hPS hPL
  have D6 := hide d6
  clear d6
  refine (mm).mono ?_
  rintro e w13 ⟨v5, rfl, r5, k13⟩
  replace r1 := r1.kept k13 (.inr (.inr (Nat.le_refl 0)))
  replace r2 := r2.kept k13 (.inr (.inr (Nat.le_refl 0)))
  replace r3 := r3.kept k13 (.inr (.inr (Nat.le_refl 0)))
  replace r4 := r4.kept k13 (.inr (.inr (Nat.le_refl 0)))
  replace ca0 := k13.cell0 ca0
  replace ca1 := k13.cell0 ca1
  replace cb0 := k13.cell0 cb0
  replace cb1 := k13.cell0 cb1
  replace cc0 := k13.cell0 cc0
  replace cc1 := k13.cell0 cc1
  replace cd0 := k13.cell0 cd0
  replace cd1 := k13.cell0 cd1
  replace K := hide ((unhide K).trans k13)
  have z14 := k13.size
  clear k13
  clear mm
  obtain ⟨a5, c5, hv⟩ := Row.form' r5
  subst hv
  have kn := (Kept.refl 0 0 w13).alloc (.cells #[.bool PS, .slice a5 PL.length c5] 27)
  have ce0 : (w13.alloc (.cells #[.bool PS, .slice a5 PL.length c5] 27)).cell? ⟨w13.heap.size, 0, none⟩ = some (.bool PS) := new_cell2 _ _ _ _ _ _ (by simp) rfl
  have ce1 : (w13.alloc (.cells #[.bool PS, .slice a5 PL.length c5] 27)).cell? ⟨w13.heap.size, 1, none⟩ = some (.slice a5 PL.length c5) := new_cell2 _ _ _ _ _ _ (by simp) rfl
  have sz15 : w13.heap.size + 1 ≤ (w13.alloc (.cells #[.bool PS, .slice a5 PL.length c5] 27)).heap.size := by simp
  replace r1 := r1.kept kn (.inr (.inr (Nat.le_refl 0)))
  replace r2 := r2.kept kn (.inr (.inr (Nat.le_refl 0)))
  replace r3 := r3.kept kn (.inr (.inr (Nat.le_refl 0)))
  replace r4 := r4.kept kn (.inr (.inr (Nat.le_refl 0)))
  replace r5 := r5.kept kn (.inr (.inr (Nat.le_refl 0)))
  replace ca0 := kn.cell0 ca0
  replace ca1 := kn.cell0 ca1
  replace cb0 := kn.cell0 cb0
  replace cb1 := kn.cell0 cb1
  replace cc0 := kn.cell0 cc0
  replace cc1 := kn.cell0 cc1
  replace cd0 := kn.cell0 cd0
  replace cd1 := kn.cell0 cd1
  replace K := hide ((unhide K).trans kn)
  have z16 := kn.size
  clear kn
  go_wp2_with fail
  generalize (w13.alloc (.cells #[.bool PS, .slice a5 PL.length c5] 27)) = wn17 at *
  have ma := wAdd_impl PS false wn17 r5 r4
  cases PB
  · have hg : (99 : Int) ≤ (xs.length : Int) := by
      have := unhide D2 (by trivial)
      omega
    obtain ⟨SB, hSB⟩ : ∃ y, ansWB (wokB PS PL && wokB false RD) (wval PS PL + wval false RD) = y := ⟨_, rfl⟩
    obtain ⟨SS, hSS⟩ : ∃ y, ansWS (wokB PS PL && wokB false RD) (wval PS PL + wval false RD) = y := ⟨_, rfl⟩
    obtain ⟨SL, hSL⟩ : ∃ y, ansWL (wokB PS PL && wokB false RD) (wval PS PL + wval false RD) = y := ⟨_, rfl⟩
    rw [hSB, hSS, hSL] at ma
    clear hSB hSS hSL
    refine (ma).mono ?_
    rintro e w18 ⟨v6, rfl, r6, k18⟩
    replace r1 := r1.kept k18 (.inr (.inr (Nat.le_refl 0)))
    replace r2 := r2.kept k18 (.inr (.inr (Nat.le_refl 0)))
    replace r3 := r3.kept k18 (.inr (.inr (Nat.le_refl 0)))
    replace r4 := r4.kept k18 (.inr (.inr (Nat.le_refl 0)))
    replace r5 := r5.kept k18 (.inr (.inr (Nat.le_refl 0)))
    replace ca0 := k18.cell0 ca0
    replace ca1 := k18.cell0 ca1
    replace cb0 := k18.cell0 cb0
    replace cb1 := k18.cell0 cb1
    replace cc0 := k18.cell0 cc0
    replace cc1 := k18.cell0 cc1
    replace cd0 := k18.cell0 cd0
    replace cd1 := k18.cell0 cd1
    replace ce0 := k18.cell0 ce0
    replace ce1 := k18.cell0 ce1
    replace K := hide ((unhide K).trans k18)
    have z19 := k18.size
    clear k18
    clear ma
    obtain ⟨a6, c6, hv⟩ := Row.form' r6
    subst hv
    have kn := (Kept.refl 0 0 w18).alloc (.cells #[.bool SS, .slice a6 SL.length c6] 27)
    have cf0 : (w18.alloc (.cells #[.bool SS, .slice a6 SL.length c6] 27)).cell? ⟨w18.heap.size, 0, none⟩ = some (.bool SS) := new_cell2 _ _ _ _ _ _ (by simp) rfl
    have cf1 : (w18.alloc (.cells #[.bool SS, .slice a6 SL.length c6] 27)).cell? ⟨w18.heap.size, 1, none⟩ = some (.slice a6 SL.length c6) := new_cell2 _ _ _ _ _ _ (by simp) rfl
    have sz20 : w18.heap.size + 1 ≤ (w18.alloc (.cells #[.bool SS, .slice a6 SL.length c6] 27)).heap.size := by simp
    replace r1 := r1.kept kn (.inr (.inr (Nat.le_refl 0)))
    replace r2 := r2.kept kn (.inr (.inr (Nat.le_refl 0)))
    replace r3 := r3.kept kn (.inr (.inr (Nat.le_refl 0)))
    replace r4 := r4.kept kn (.inr (.inr (Nat.le_refl 0)))
    replace r5 := r5.kept kn (.inr (.inr (Nat.le_refl 0)))
    replace r6 := r6.kept kn (.inr (.inr (Nat.le_refl 0)))
    replace ca0 := kn.cell0 ca0
    replace ca1 := kn.cell0 ca1
    replace cb0 := kn.cell0 cb0
    replace cb1 := kn.cell0 cb1
    replace cc0 := kn.cell0 cc0
    replace cc1 := kn.cell0 cc1
    replace cd0 := kn.cell0 cd0
    replace cd1 := kn.cell0 cd1
    replace ce0 := kn.cell0 ce0
    replace ce1 := kn.cell0 ce1
    replace K := hide ((unhide K).trans kn)
    have z21 := kn.size
    clear kn
    go_wp2_with fail
    generalize (w18.alloc (.cells #[.bool SS, .slice a6 SL.length c6] 27)) = wn22 at *
    try go_wp2_with fail
    go_ret
    exact ⟨rfl, (unhide K).toBelow⟩
  obtain ⟨g1, g2, g3⟩ := unhide D3 (by trivial)
  rw [g1, g2, g3] at ma
  clear g1 g2 g3
  refine (ma).mono ?_
  rintro e w18 ⟨v6, rfl, r6, k18⟩
  replace r1 := r1.kept k18 (.inr (.inr (Nat.le_refl 0)))
  replace r2 := r2.kept k18 (.inr (.inr (Nat.le_refl 0)))
  replace r3 := r3.kept k18 (.inr (.inr (Nat.le_refl 0)))
  replace r4 := r4.kept k18 (.inr (.inr (Nat.le_refl 0)))
  replace r5 := r5.kept k18 (.inr (.inr (Nat.le_refl 0)))
  replace ca0 := k18.cell0 ca0
  replace ca1 := k18.cell0 ca1
  replace cb0 := k18.cell0 cb0
  replace cb1 := k18.cell0 cb1
  replace cc0 := k18.cell0 cc0
  replace cc1 := k18.cell0 cc1
  replace cd0 := k18.cell0 cd0
  replace cd1 := k18.cell0 cd1
  replace ce0 := k18.cell0 ce0
  replace ce1 := k18.cell0 ce1
  replace K := hide ((unhide K).trans k18)
  have z19 := k18.size
  clear k18
  clear ma
  obtain ⟨a6, c6, hv⟩ := Row.form' r6
  subst hv
  have kn := (Kept.refl 0 0 w18).alloc (.cells #[.bool s1, .slice a6 xs.length c6] 27)
  have cf0 : (w18.alloc (.cells #[.bool s1, .slice a6 xs.length c6] 27)).cell? ⟨w18.heap.size, 0, none⟩ = some (.bool s1) := new_cell2 _ _ _ _ _ _ (by simp) rfl
  have cf1 : (w18.alloc (.cells #[.bool s1, .slice a6 xs.length c6] 27)).cell? ⟨w18.heap.size, 1, none⟩ = some (.slice a6 xs.length c6) := new_cell2 _ _ _ _ _ _ (by simp) rfl
  have sz20 : w18.heap.size + 1 ≤ (w18.alloc (.cells #[.bool s1, .slice a6 xs.length c6] 27)).heap.size := by simp
  replace r1 := r1.kept kn (.inr (.inr (Nat.le_refl 0)))
  replace r2 := r2.kept kn (.inr (.inr (Nat.le_refl 0)))
  replace r3 := r3.kept kn (.inr (.inr (Nat.le_refl 0)))
  replace r4 := r4.kept kn (.inr (.inr (Nat.le_refl 0)))
  replace r5 := r5.kept kn (.inr (.inr (Nat.le_refl 0)))
  replace r6 := r6.kept kn (.inr (.inr (Nat.le_refl 0)))
  replace ca0 := kn.cell0 ca0
  replace ca1 := kn.cell0 ca1
  replace cb0 := kn.cell0 cb0
  replace cb1 := kn.cell0 cb1
  replace cc0 := kn.cell0 cc0
  replace cc1 := kn.cell0 cc1
  replace cd0 := kn.cell0 cd0
  replace cd1 := kn.cell0 cd1
  replace ce0 := kn.cell0 ce0
  replace ce1 := kn.cell0 ce1
  replace K := hide ((unhide K).trans kn)
  have z21 := kn.size
  clear kn
  go_wp2_with fail
  generalize (w18.alloc (.cells #[.bool s1, .slice a6 xs.length c6] 27)) = wn22 at *
  have mk := sameWhole_any s1 s1 wn22 r6 r1
  rw [show (decide (s1 = s1) && sameL xs xs) = true from by rw [decide_eq_true rfl, show sameL xs xs = true from decide_eq_true rfl]; rfl] at mk
  refine (mk).mono ?_
  rintro e w23 ⟨rfl, k23⟩
  replace r1 := r1.kept k23 (.inr (.inr (Nat.le_refl 0)))
  replace r2 := r2.kept k23 (.inr (.inr (Nat.le_refl 0)))
  replace r3 := r3.kept k23 (.inr (.inr (Nat.le_refl 0)))
  replace r4 := r4.kept k23 (.inr (.inr (Nat.le_refl 0)))
  replace r5 := r5.kept k23 (.inr (.inr (Nat.le_refl 0)))
  replace r6 := r6.kept k23 (.inr (.inr (Nat.le_refl 0)))
  replace ca0 := k23.cell0 ca0
  replace ca1 := k23.cell0 ca1
  replace cb0 := k23.cell0 cb0
  replace cb1 := k23.cell0 cb1
  replace cc0 := k23.cell0 cc0
  replace cc1 := k23.cell0 cc1
  replace cd0 := k23.cell0 cd0
  replace cd1 := k23.cell0 cd1
  replace ce0 := k23.cell0 ce0
  replace ce1 := k23.cell0 ce1
  replace cf0 := k23.cell0 cf0
  replace cf1 := k23.cell0 cf1
  replace K := hide ((unhide K).trans k23)
  have z24 := k23.size
  clear k23
  clear mk
  go_wp2_with fail
  have mk := natCmp_impl w23 r4 r2
  rw [unhide D6] at mk
  refine (mk).mono ?_
  rintro e w25 ⟨rfl, k25⟩
  replace r1 := r1.kept k25 (.inr (.inr (Nat.le_refl 0)))
  replace r2 := r2.kept k25 (.inr (.inr (Nat.le_refl 0)))
  replace r3 := r3.kept k25 (.inr (.inr (Nat.le_refl 0)))
  replace r4 := r4.kept k25 (.inr (.inr (Nat.le_refl 0)))
  replace r5 := r5.kept k25 (.inr (.inr (Nat.le_refl 0)))
  replace r6 := r6.kept k25 (.inr (.inr (Nat.le_refl 0)))
  replace ca0 := k25.cell0 ca0
  replace ca1 := k25.cell0 ca1
  replace cb0 := k25.cell0 cb0
  replace cb1 := k25.cell0 cb1
  replace cc0 := k25.cell0 cc0
  replace cc1 := k25.cell0 cc1
  replace cd0 := k25.cell0 cd0
  replace cd1 := k25.cell0 cd1
  replace ce0 := k25.cell0 ce0
  replace ce1 := k25.cell0 ce1
  replace cf0 := k25.cell0 cf0
  replace cf1 := k25.cell0 cf1
  replace K := hide ((unhide K).trans k25)
  have z26 := k25.size
  clear k25
  clear mk
  try go_wp2_with fail
  go_ret
  exact ⟨rfl, (unhide K).toBelow⟩

end Go.Proofs.Ytpeaghaojfbbnaa
