/-
  Decimal numbers: what the laws hand over and hold, DecOk of the model and of the program, and the walk of the law FnExactDecOk.
-/
import Derived.Test.YtbcflmpakojpfaaTxt2
import Derived.Test.YtbcflmpakojpfaaBA
import Derived.Test.YtbcflmpakojpfaaBC
import Derived.Test.YtbcflmpakojpfaaLawW
import Derived.Deep.RegionHeld3
import Derived.Deep.DeepCutAuto
import Derived.BigQuiet
namespace Go.Proofs.Ytbcflmpakojpfaa
open Go.RowKit
set_option linter.unusedVariables false
set_option maxRecDepth 8000
set_option linter.unusedSimpArgs false

theorem w64c (n : Int) (h0 : -9223372036854775808 ≤ n) (h1 : n ≤ 9223372036854775807) : IntKind.i64.wrap n = n := by rw [IntKind.wrap_i64]; omega

set_option maxHeartbeats 1000000 in
theorem szDec_any {bw : Bool} {lo hi : Nat} {v : Value} {zs : List Int} (b : Bool) (x : Int) (w : World) (s : Int) (hs0 : 0 ≤ s) (hs1 : s ≤ 1048576) (r : Row .i64 bw lo hi w v zs) :
    Calls Try.prog 4 #[.agg #[.bool b, v, .int .i64 x], .int .i64 s] w fun e w' => e = .returned (.int .i64 (if (zs.length : Int) ≤ s then s - zs.length else -1)) ∧ Kept 0 0 w w' := by
  have k0 := (Kept.refl 0 0 w).alloc (.cells #[.bool b, v, .int .i64 x] 26)
  have s1 := r.kept k0 (by omega)
  have hm := r.len
  unfold maxLen at hm
  obtain ⟨a1, c1, rfl, -⟩ := r
  go_enter Try.func4, Try.ntmps4
  go_wp2_with fail
  refine (szNat_any _ s hs0 hs1 s1).mono ?_
  rintro e w6 ⟨rfl, k6⟩
  have K := hide (k0.trans k6)
  clear s1 k0 k6
  by_cases h : (zs.length : Int) ≤ s
  · rw [if_pos h]
    have h' : ¬ (s - (zs.length : Int)) < 0 := by omega
    go_wp2
    go_ret
    exact ⟨rfl, unhide K⟩
  · rw [if_neg h]
    go_wp2
    go_ret
    exact ⟨rfl, unhide K⟩

set_option maxHeartbeats 1000000 in
theorem eqDec_same {b1 b2 : Bool} {l1 h1 l2 h2 : Nat} {v1 v2 : Value} {zs : List Int} (b : Bool) (x : Int) (w : World) (r1 : Row .i64 b1 l1 h1 w v1 zs) (r2 : Row .i64 b2 l2 h2 w v2 zs) :
    Calls Try.prog 8 #[.agg #[.bool b, v1, .int .i64 x], .agg #[.bool b, v2, .int .i64 x]] w fun e w' => e = .returned (.bool true) ∧ Kept 0 0 w w' := by
  have kk := ((Kept.refl 0 0 w).alloc (.cells #[.bool b, v1, .int .i64 x] 31)).alloc (.cells #[.bool b, v2, .int .i64 x] 31)
  have c1 : ((w.alloc (.cells #[.bool b, v1, .int .i64 x] 31)).alloc (.cells #[.bool b, v2, .int .i64 x] 31)).cell? ⟨w.heap.size, 2, none⟩ = some (.int .i64 x) := old_cell _ (new_cell2 _ _ _ _ _ _ (by simp) rfl)
  have c2 : ((w.alloc (.cells #[.bool b, v1, .int .i64 x] 31)).alloc (.cells #[.bool b, v2, .int .i64 x] 31)).cell? ⟨w.heap.size + 1, 2, none⟩ = some (.int .i64 x) := new_cell2 _ _ _ _ _ _ (by simp) rfl
  have s1 := r1.kept kk (by omega)
  have s2 := r2.kept kk (by omega)
  have KK := hide kk
  obtain ⟨a1, d1, rfl, -⟩ := r1
  obtain ⟨a2, d2, rfl, -⟩ := r2
  have hbb : (x != x) = false := by simp
  clear kk
  go_enter Try.func8, Try.ntmps8
  go_wp2_with fail
  refine (eqNat_same _ s1 s2).mono ?_
  rintro e w6 ⟨rfl, k6⟩
  replace c1 := k6.cell0 c1
  replace c2 := k6.cell0 c2
  have K := hide ((unhide KK).trans k6)
  clear s1 s2 k6 KK
  go_wp2
  go_ret
  exact ⟨rfl, unhide K⟩

set_option maxHeartbeats 1000000 in
theorem toDec_any {bw : Bool} {lo hi : Nat} {v : Value} {zs : List Int} (b : Bool) (x : Int) (w : World) (hn : zs.length ≤ 1099511627776) (r : Row .i64 bw lo hi w v zs) :
    Calls Try.prog 6 #[.agg #[.bool b, v, .int .i64 x]] w fun e w' => ∃ v', e = .returned (.agg #[.bool b, v', .int .i64 x]) ∧ Row .i64 true w.heap.size w'.heap.size w' v' zs ∧ Kept 0 0 w w' := by
  have k0 : Kept 0 0 w (((w.alloc (.cells #[.bool b, v, .int .i64 x] 26)).alloc (.cells #[.bool false, .slice none 0 0, .int .i64 0] 31)).alloc (.cells #[.bool b, .slice none 0 0, .int .i64 0] 31)) := ((((Kept.refl 0 0 w).alloc (.cells #[.bool b, v, .int .i64 x] 26)).alloc (.cells #[.bool false, .slice none 0 0, .int .i64 0] 31)).alloc (.cells #[.bool b, .slice none 0 0, .int .i64 0] 31))
  have A0 : (((w.alloc (.cells #[.bool b, v, .int .i64 x] 26)).alloc (.cells #[.bool false, .slice none 0 0, .int .i64 0] 31)).alloc (.cells #[.bool b, .slice none 0 0, .int .i64 0] 31)).cell? ⟨w.heap.size, 0, none⟩ = some (.bool b) := old_cell _ (old_cell _ (new_cell2 _ _ _ _ _ _ (by simp) rfl))
  have A1 : (((w.alloc (.cells #[.bool b, v, .int .i64 x] 26)).alloc (.cells #[.bool false, .slice none 0 0, .int .i64 0] 31)).alloc (.cells #[.bool b, .slice none 0 0, .int .i64 0] 31)).cell? ⟨w.heap.size, 1, none⟩ = some (v) := old_cell _ (old_cell _ (new_cell2 _ _ _ _ _ _ (by simp) rfl))
  have A2 : (((w.alloc (.cells #[.bool b, v, .int .i64 x] 26)).alloc (.cells #[.bool false, .slice none 0 0, .int .i64 0] 31)).alloc (.cells #[.bool b, .slice none 0 0, .int .i64 0] 31)).cell? ⟨w.heap.size, 2, none⟩ = some (.int .i64 x) := old_cell _ (old_cell _ (new_cell2 _ _ _ _ _ _ (by simp) rfl))
  have R0 : (((w.alloc (.cells #[.bool b, v, .int .i64 x] 26)).alloc (.cells #[.bool false, .slice none 0 0, .int .i64 0] 31)).alloc (.cells #[.bool b, .slice none 0 0, .int .i64 0] 31)).cell? ⟨w.heap.size + 1, 0, none⟩ = some (.bool false) := old_cell _ (new_cell2 _ _ _ _ _ _ (by simp) rfl)
  have Rf0 : (((w.alloc (.cells #[.bool b, v, .int .i64 x] 26)).alloc (.cells #[.bool false, .slice none 0 0, .int .i64 0] 31)).alloc (.cells #[.bool b, .slice none 0 0, .int .i64 0] 31)).frozen? ⟨w.heap.size + 1, 0, none⟩ = false := loose_old (by simp <;> omega) (new_loose2 _ _ _ _ _ (by simp))
  have R1 : (((w.alloc (.cells #[.bool b, v, .int .i64 x] 26)).alloc (.cells #[.bool false, .slice none 0 0, .int .i64 0] 31)).alloc (.cells #[.bool b, .slice none 0 0, .int .i64 0] 31)).cell? ⟨w.heap.size + 1, 1, none⟩ = some (.slice none 0 0) := old_cell _ (new_cell2 _ _ _ _ _ _ (by simp) rfl)
  have Rf1 : (((w.alloc (.cells #[.bool b, v, .int .i64 x] 26)).alloc (.cells #[.bool false, .slice none 0 0, .int .i64 0] 31)).alloc (.cells #[.bool b, .slice none 0 0, .int .i64 0] 31)).frozen? ⟨w.heap.size + 1, 1, none⟩ = false := loose_old (by simp <;> omega) (new_loose2 _ _ _ _ _ (by simp))
  have R2 : (((w.alloc (.cells #[.bool b, v, .int .i64 x] 26)).alloc (.cells #[.bool false, .slice none 0 0, .int .i64 0] 31)).alloc (.cells #[.bool b, .slice none 0 0, .int .i64 0] 31)).cell? ⟨w.heap.size + 1, 2, none⟩ = some (.int .i64 0) := old_cell _ (new_cell2 _ _ _ _ _ _ (by simp) rfl)
  have Rf2 : (((w.alloc (.cells #[.bool b, v, .int .i64 x] 26)).alloc (.cells #[.bool false, .slice none 0 0, .int .i64 0] 31)).alloc (.cells #[.bool b, .slice none 0 0, .int .i64 0] 31)).frozen? ⟨w.heap.size + 1, 2, none⟩ = false := loose_old (by simp <;> omega) (new_loose2 _ _ _ _ _ (by simp))
  have O0 : (((w.alloc (.cells #[.bool b, v, .int .i64 x] 26)).alloc (.cells #[.bool false, .slice none 0 0, .int .i64 0] 31)).alloc (.cells #[.bool b, .slice none 0 0, .int .i64 0] 31)).cell? ⟨w.heap.size + 2, 0, none⟩ = some (.bool b) := new_cell2 _ _ _ _ _ _ (by simp) rfl
  have Of0 : (((w.alloc (.cells #[.bool b, v, .int .i64 x] 26)).alloc (.cells #[.bool false, .slice none 0 0, .int .i64 0] 31)).alloc (.cells #[.bool b, .slice none 0 0, .int .i64 0] 31)).frozen? ⟨w.heap.size + 2, 0, none⟩ = false := new_loose2 _ _ _ _ _ (by simp)
  have O1 : (((w.alloc (.cells #[.bool b, v, .int .i64 x] 26)).alloc (.cells #[.bool false, .slice none 0 0, .int .i64 0] 31)).alloc (.cells #[.bool b, .slice none 0 0, .int .i64 0] 31)).cell? ⟨w.heap.size + 2, 1, none⟩ = some (.slice none 0 0) := new_cell2 _ _ _ _ _ _ (by simp) rfl
  have Of1 : (((w.alloc (.cells #[.bool b, v, .int .i64 x] 26)).alloc (.cells #[.bool false, .slice none 0 0, .int .i64 0] 31)).alloc (.cells #[.bool b, .slice none 0 0, .int .i64 0] 31)).frozen? ⟨w.heap.size + 2, 1, none⟩ = false := new_loose2 _ _ _ _ _ (by simp)
  have O2 : (((w.alloc (.cells #[.bool b, v, .int .i64 x] 26)).alloc (.cells #[.bool false, .slice none 0 0, .int .i64 0] 31)).alloc (.cells #[.bool b, .slice none 0 0, .int .i64 0] 31)).cell? ⟨w.heap.size + 2, 2, none⟩ = some (.int .i64 0) := new_cell2 _ _ _ _ _ _ (by simp) rfl
  have Of2 : (((w.alloc (.cells #[.bool b, v, .int .i64 x] 26)).alloc (.cells #[.bool false, .slice none 0 0, .int .i64 0] 31)).alloc (.cells #[.bool b, .slice none 0 0, .int .i64 0] 31)).frozen? ⟨w.heap.size + 2, 2, none⟩ = false := new_loose2 _ _ _ _ _ (by simp)
  replace r := r.kept k0 (by omega)
  have s0 : (((w.alloc (.cells #[.bool b, v, .int .i64 x] 26)).alloc (.cells #[.bool false, .slice none 0 0, .int .i64 0] 31)).alloc (.cells #[.bool b, .slice none 0 0, .int .i64 0] 31)).heap.size = w.heap.size + 3 := by simp
  obtain ⟨a1, c1, hv⟩ := Row.form' r
  subst hv
  have K := hide (k0)
  clear k0
  have S0 := hide s0
  clear s0
  go_enter Try.func6, Try.ntmps6
  go_wp2_with fail
  generalize (((w.alloc (.cells #[.bool b, .slice a1 zs.length c1, .int .i64 x] 26)).alloc (.cells #[.bool false, .slice none 0 0, .int .i64 0] 31)).alloc (.cells #[.bool b, .slice none 0 0, .int .i64 0] 31)) = W at *
  refine (toNat_any _ hn r).mono ?_
  rintro e w1 ⟨v6, rfl, r6, k1⟩
  replace r := r.kept k1 (.inr (.inr (Nat.le_refl 0)))
  replace Rf0 := k1.loose0 (World.block_lt_of_cell? _ _ R0) Rf0
  replace Rf1 := k1.loose0 (World.block_lt_of_cell? _ _ R1) Rf1
  replace Rf2 := k1.loose0 (World.block_lt_of_cell? _ _ R2) Rf2
  replace Of0 := k1.loose0 (World.block_lt_of_cell? _ _ O0) Of0
  replace Of1 := k1.loose0 (World.block_lt_of_cell? _ _ O1) Of1
  replace Of2 := k1.loose0 (World.block_lt_of_cell? _ _ O2) Of2
  replace A0 := k1.cell0 A0
  replace A1 := k1.cell0 A1
  replace A2 := k1.cell0 A2
  replace R0 := k1.cell0 R0
  replace R1 := k1.cell0 R1
  replace R2 := k1.cell0 R2
  replace O0 := k1.cell0 O0
  replace O1 := k1.cell0 O1
  replace O2 := k1.cell0 O2
  replace K := hide ((unhide K).trans k1)
  have z2 := k1.size
  clear k1
  obtain ⟨a6, c6, hv⟩ := Row.form' r6
  subst hv
  have bX : w.heap.size + 2 < w1.heap.size := World.block_lt_of_cell? _ _ O0
  have R := hide ((((((r6.set_other (p := ⟨w.heap.size + 2, 1, none⟩) (.inl (by have := unhide S0; dsimp only; omega)) (.slice a6 zs.length c6)).set_other (p := ⟨w.heap.size + 2, 2, none⟩) (.inl (by have := unhide S0; dsimp only; omega)) (.int .i64 x)).set_other (p := ⟨w.heap.size + 1, 0, none⟩) (.inl (by have := unhide S0; dsimp only; omega)) (.bool b)).set_other (p := ⟨w.heap.size + 1, 1, none⟩) (.inl (by have := unhide S0; dsimp only; omega)) (.slice a6 zs.length c6)).set_other (p := ⟨w.heap.size + 1, 2, none⟩) (.inl (by have := unhide S0; dsimp only; omega)) (.int .i64 x)).tight.wider (lo' := w.heap.size) (by have := unhide S0; omega) (Nat.le_refl _))
  have K7 := hide ((((((unhide K).setNew (p := ⟨w.heap.size + 2, 1, none⟩) (by simp) (.slice a6 zs.length c6)).setNew (p := ⟨w.heap.size + 2, 2, none⟩) (by simp) (.int .i64 x)).setNew (p := ⟨w.heap.size + 1, 0, none⟩) (by simp) (.bool b)).setNew (p := ⟨w.heap.size + 1, 1, none⟩) (by simp) (.slice a6 zs.length c6)).setNew (p := ⟨w.heap.size + 1, 2, none⟩) (by simp) (.int .i64 x))
  clear r r6 K
  go_wp2
  exact bodyPost_ret (v := .agg #[.bool b, .slice a6 zs.length c6, .int .i64 x]) (by simp [results, Try.results6, go_sem, R0, R1, R2]) rfl ⟨_, rfl, unhide R, unhide K7⟩

/-- Whether digits times a power of ten are a decimal number. -/
def cokB (zs : List Int) (x : Int) : Bool := okB zs && (decide (-800 ≤ x) && decide (x ≤ 800)) && (if zs.length = 0 then decide (x = 0) else decide (val zs % 10 ≠ 0))

set_option maxHeartbeats 2000000 in
theorem cok_spec {bw : Bool} {lo hi : Nat} {v : Value} {zs : List Int} (b : Bool) (x : Int) (w : World) (r : Row .i64 bw lo hi w v zs) :
    Calls Try.prog 5 #[.agg #[.bool b, v, .int .i64 x]] w fun e w' => e = .returned (.bool (cokB zs x)) ∧ Kept 0 0 w w' := by
  obtain ⟨Q, hQ⟩ : ∃ q, cokB zs x = q := ⟨_, rfl⟩
  rw [hQ]
  have HQ := hide hQ
  clear hQ
  have k0 : Kept 0 0 w (w.alloc (.cells #[.bool b, v, .int .i64 x] 31)) := ((Kept.refl 0 0 w).alloc (.cells #[.bool b, v, .int .i64 x] 31))
  have p0 : (w.alloc (.cells #[.bool b, v, .int .i64 x] 31)).cell? ⟨w.heap.size, 0, none⟩ = some (.bool b) := new_cell2 _ _ _ _ _ _ (by simp) rfl
  have p1 : (w.alloc (.cells #[.bool b, v, .int .i64 x] 31)).cell? ⟨w.heap.size, 1, none⟩ = some (v) := new_cell2 _ _ _ _ _ _ (by simp) rfl
  have p2 : (w.alloc (.cells #[.bool b, v, .int .i64 x] 31)).cell? ⟨w.heap.size, 2, none⟩ = some (.int .i64 x) := new_cell2 _ _ _ _ _ _ (by simp) rfl
  replace r := r.kept k0 (by omega)
  have s0 : (w.alloc (.cells #[.bool b, v, .int .i64 x] 31)).heap.size = w.heap.size + 1 := by simp
  obtain ⟨a, c, hv⟩ := Row.form' r
  subst hv
  have K := hide (k0)
  clear k0
  have S0 := hide s0
  clear s0
  go_enter Try.func5, Try.ntmps5
  go_wp2_with fail
  generalize (w.alloc (.cells #[.bool b, .slice a zs.length c, .int .i64 x] 31)) = W at *
  refine (ok_spec _ r).mono ?_
  rintro e w1 ⟨rfl, k1⟩
  replace r := r.kept k1 (.inr (.inr (Nat.le_refl 0)))
  replace p0 := k1.cell0 p0
  replace p1 := k1.cell0 p1
  replace p2 := k1.cell0 p2
  replace K := hide ((unhide K).trans k1)
  have z2 := k1.size
  clear k1
  cases ho : okB zs
  · have FQ : Hid (Q = false) := by show _ = _; rw [← unhide HQ]; unfold cokB; rw [ho]; rfl
    clear r
    go_wp2_with fail
    go_ret
    exact ⟨by rw [unhide FQ]; rfl, unhide K⟩
  by_cases h1 : x < -800
  · have FQ : Hid (Q = false) := by show _ = _; rw [← unhide HQ]; unfold cokB; rw [decide_eq_false (show ¬ -800 ≤ x by omega)]; simp
    clear r
    go_wp2_with fail
    go_ret
    exact ⟨by rw [unhide FQ]; rfl, unhide K⟩
  by_cases h2 : 800 < x
  · have FQ : Hid (Q = false) := by show _ = _; rw [← unhide HQ]; unfold cokB; rw [decide_eq_false (show ¬ x ≤ 800 by omega)]; simp
    clear r
    go_wp2_with fail
    go_ret
    exact ⟨by rw [unhide FQ]; rfl, unhide K⟩
  obtain ⟨hl, hn⟩ := (okB_iff zs).1 ho
  have hv := val_nonneg hn.1
  have FQ : Hid (Q = (if zs.length = 0 then decide (x = 0) else decide (val zs % 10 ≠ 0))) := by show _ = _; rw [← unhide HQ]; unfold cokB; rw [ho, decide_eq_true (show -800 ≤ x by omega), decide_eq_true (show x ≤ 800 by omega)]; simp
  clear ho
  by_cases h0 : zs.length = 0
  · have hb0 : ((zs.length : Int) == 0) = true := beq_iff_eq.2 (by omega)
    have FR : Hid (Q = (x == 0)) := by show _ = _; rw [unhide FQ, if_pos h0, Bool.eq_iff_iff]; simp
    clear r FQ h0
    go_wp2_with fail
    go_ret
    exact ⟨by rw [unhide FR]; rfl, unhide K⟩
  have hb0 : ((zs.length : Int) == 0) = false := beq_eq_false_iff_ne.2 (by omega)
  go_wp2_with fail
  refine (small_spec _ r hn.1 (by omega) 10 (by omega) (by omega)).mono ?_
  rintro e w3 ⟨v6, rfl, r6, k3⟩
  replace r := r.kept k3 (.inr (.inr (Nat.le_refl 0)))
  replace p0 := k3.cell0 p0
  replace p1 := k3.cell0 p1
  replace p2 := k3.cell0 p2
  replace K := hide ((unhide K).trans k3)
  have z4 := k3.size
  clear k3
  obtain ⟨a6, c6, hv6⟩ := Row.form' r6
  subst hv6
  obtain ⟨D, hD⟩ : ∃ d, val zs % 10 = d := ⟨_, rfl⟩
  have hD0 : 0 ≤ D := by omega
  have FR : Hid (Q = decide (0 < D)) := by show _ = _; rw [unhide FQ, if_neg h0, hD]; exact decide_eq_decide.2 (by omega)
  rw [hD]
  clear hD FQ
  obtain ⟨ZZ, hZZ⟩ : ∃ y, limbs (val zs / 10).toNat = y := ⟨_, rfl⟩
  rw [hZZ] at r6
  try rw [hZZ]
  clear hZZ
  have kn := (Kept.refl 0 0 w3).alloc (.cells #[.slice a6 ZZ.length c6] 29)
  replace r := r.kept kn (.inr (.inr (Nat.le_refl 0)))
  replace r6 := r6.kept kn (.inr (.inr (Nat.le_refl 0)))
  replace p0 := kn.cell0 p0
  replace p1 := kn.cell0 p1
  replace p2 := kn.cell0 p2
  replace K := hide ((unhide K).trans kn)
  have z5 := kn.size
  clear kn
  clear r r6
  go_wp2_with fail
  go_ret
  exact ⟨by rw [unhide FR]; rfl, unhide K⟩

set_option maxHeartbeats 2000000 in
theorem cok_impl {bw : Bool} {lo hi : Nat} {v : Value} {zs : List Int} (b : Bool) (x : Int) (w : World) (r : Row .i64 bw lo hi w v zs) :
    Calls Try.prog 7 #[.agg #[.bool b, v, .int .i64 x]] w fun e w' => e = .returned (.bool (cokB zs x)) ∧ Kept 0 0 w w' := by
  obtain ⟨Q, hQ⟩ : ∃ q, cokB zs x = q := ⟨_, rfl⟩
  rw [hQ]
  have HQ := hide hQ
  clear hQ
  have k0 : Kept 0 0 w (w.alloc (.cells #[.bool b, v, .int .i64 x] 31)) := ((Kept.refl 0 0 w).alloc (.cells #[.bool b, v, .int .i64 x] 31))
  have p0 : (w.alloc (.cells #[.bool b, v, .int .i64 x] 31)).cell? ⟨w.heap.size, 0, none⟩ = some (.bool b) := new_cell2 _ _ _ _ _ _ (by simp) rfl
  have p1 : (w.alloc (.cells #[.bool b, v, .int .i64 x] 31)).cell? ⟨w.heap.size, 1, none⟩ = some (v) := new_cell2 _ _ _ _ _ _ (by simp) rfl
  have p2 : (w.alloc (.cells #[.bool b, v, .int .i64 x] 31)).cell? ⟨w.heap.size, 2, none⟩ = some (.int .i64 x) := new_cell2 _ _ _ _ _ _ (by simp) rfl
  replace r := r.kept k0 (by omega)
  have s0 : (w.alloc (.cells #[.bool b, v, .int .i64 x] 31)).heap.size = w.heap.size + 1 := by simp
  obtain ⟨a, c, hv⟩ := Row.form' r
  subst hv
  have K := hide (k0)
  clear k0
  have S0 := hide s0
  clear s0
  go_enter Try.func7, Try.ntmps7
  go_wp2_with fail
  generalize (w.alloc (.cells #[.bool b, .slice a zs.length c, .int .i64 x] 31)) = W at *
  refine (ok_impl _ r).mono ?_
  rintro e w1 ⟨rfl, k1⟩
  replace r := r.kept k1 (.inr (.inr (Nat.le_refl 0)))
  replace p0 := k1.cell0 p0
  replace p1 := k1.cell0 p1
  replace p2 := k1.cell0 p2
  replace K := hide ((unhide K).trans k1)
  have z2 := k1.size
  clear k1
  cases ho : okB zs
  · have FQ : Hid (Q = false) := by show _ = _; rw [← unhide HQ]; unfold cokB; rw [ho]; rfl
    clear r
    go_wp2_with fail
    go_ret
    exact ⟨by rw [unhide FQ]; rfl, unhide K⟩
  by_cases h1 : x < -800
  · have FQ : Hid (Q = false) := by show _ = _; rw [← unhide HQ]; unfold cokB; rw [decide_eq_false (show ¬ -800 ≤ x by omega)]; simp
    clear r
    go_wp2_with fail
    go_ret
    exact ⟨by rw [unhide FQ]; rfl, unhide K⟩
  by_cases h2 : 800 < x
  · have FQ : Hid (Q = false) := by show _ = _; rw [← unhide HQ]; unfold cokB; rw [decide_eq_false (show ¬ x ≤ 800 by omega)]; simp
    clear r
    go_wp2_with fail
    go_ret
    exact ⟨by rw [unhide FQ]; rfl, unhide K⟩
  obtain ⟨hl, hn⟩ := (okB_iff zs).1 ho
  have hv := val_nonneg hn.1
  have FQ : Hid (Q = (if zs.length = 0 then decide (x = 0) else decide (val zs % 10 ≠ 0))) := by show _ = _; rw [← unhide HQ]; unfold cokB; rw [ho, decide_eq_true (show -800 ≤ x by omega), decide_eq_true (show x ≤ 800 by omega)]; simp
  clear ho
  go_wp2_with fail
  refine (limbsOf_impl _ r (by omega)).mono ?_
  rintro e w3 ⟨v3, rfl, o3, k3⟩
  replace r := r.kept k3 (.inr (.inr (Nat.le_refl 0)))
  replace p0 := k3.cell0 p0
  replace p1 := k3.cell0 p1
  replace p2 := k3.cell0 p2
  replace K := hide ((unhide K).trans k3)
  have z4 := k3.size
  clear k3
  have l3 := o3.lt
  obtain ⟨a3, c3, hv3⟩ := own_slice o3
  subst hv3
  have nn := Num.new (w := w3) 41 o3
  have kn := (Kept.refl 0 0 w3).alloc (.cells #[.slice a3 zs.length c3] 41)
  replace r := r.kept kn (.inr (.inr (Nat.le_refl 0)))
  replace p0 := kn.cell0 p0
  replace p1 := kn.cell0 p1
  replace p2 := kn.cell0 p2
  replace K := hide ((unhide K).trans kn)
  have z5 := kn.size
  clear kn o3
  go_wp2_with fail
  generalize w3.alloc (.cells #[.slice a3 zs.length c3] 41) = W9 at *
  refine (takeDigit_impl _ nn hn.1 (by omega)).mono ?_
  rintro e w6 ⟨rfl, u6, n6, -, m6⟩
  have hS : ∀ i, Own1 w3.heap.size (.slice a3 zs.length c3) i → w.heap.size + 1 ≤ i := fun i e => e.elim (fun e => by have := unhide S0; omega) (fun e => by have := (l3 _ e).1; have := unhide S0; omega)
  have nS : ¬ Own1 w3.heap.size (.slice a3 zs.length c3) w.heap.size := fun e => by have := hS _ e; omega
  replace p0 := m6.cell (a := ⟨w.heap.size, 0, none⟩) nS p0
  replace p1 := m6.cell (a := ⟨w.heap.size, 1, none⟩) nS p1
  replace p2 := m6.cell (a := ⟨w.heap.size, 2, none⟩) nS p2
  replace K := hide ((unhide K).mod m6 (fun i e => by have := hS i e; omega))
  clear m6 n6 nn hS nS r
  obtain ⟨D, hD⟩ : ∃ d, val zs % 10 = d := ⟨_, rfl⟩
  rw [hD]
  have hz0 : zs.length = 0 → D = 0 := fun h => by rw [← hD, List.length_eq_zero_iff.1 h]; rfl
  rw [hD] at FQ
  clear hD
  by_cases hD0 : D = 0
  · subst hD0
    by_cases h0 : zs.length = 0
    · have hb0 : ((zs.length : Int) == 0) = true := beq_iff_eq.2 (by omega)
      have FR : Hid (Q = (x == 0)) := by show _ = _; rw [unhide FQ, if_pos h0, Bool.eq_iff_iff]; simp
      clear FQ h0 hz0
      go_wp2_with fail
      go_ret
      exact ⟨by rw [unhide FR]; rfl, unhide K⟩
    · have hb0 : ((zs.length : Int) == 0) = false := beq_eq_false_iff_ne.2 (by omega)
      have FR : Hid (Q = false) := by show _ = _; rw [unhide FQ, if_neg h0]; simp
      clear FQ h0 hz0
      go_wp2_with fail
      go_ret
      exact ⟨by rw [unhide FR]; rfl, unhide K⟩
  have hbn : (D == (0 : Int)) = false := beq_eq_false_iff_ne.2 hD0
  have FR : Hid (Q = true) := by show _ = _; rw [unhide FQ, if_neg (fun h => hD0 (hz0 h)), decide_eq_true hD0]
  clear FQ hz0
  go_wp2_with fail
  go_ret
  exact ⟨by rw [unhide FR]; rfl, unhide K⟩

theorem in_toDec : ∀ (w : World) (args : Array Value), (callFunc 6 args).run Try.prog w = .ok (.enter 6 args) w := enters Try.func6 (by decide) (fun h => by cases h)

theorem in_eqDec : ∀ (w : World) (args : Array Value), (callFunc 8 args).run Try.prog w = .ok (.enter 8 args) w := enters Try.func8 (by decide) (fun h => by cases h)

set_option maxHeartbeats 4000000 in
theorem law_DecOk {u : Value} {z : List Int} {w : World} (s : Bool) (y : Int) (r : Row .i64 false 0 w.heap.size w u z) (fy : (Lit.int .i64 y).wf = true) :
    Calls Try.prog 3 #[.agg #[.bool s, u, .int .i64 y]] w fun e w' => e = .returned (.bool true) ∧ Below w.heap.size w w' := by
  obtain ⟨Q, hQ⟩ : ∃ q, cokB z y = q := ⟨_, rfl⟩
  have HQ := hide hQ
  clear hQ
  have hm := r.len
  unfold maxLen at hm
  have k0 : Kept 0 0 w (w.alloc (.cells #[.bool s, u, .int .i64 y] 26)) := ((Kept.refl 0 0 w).alloc (.cells #[.bool s, u, .int .i64 y] 26))
  have A0 : (w.alloc (.cells #[.bool s, u, .int .i64 y] 26)).cell? ⟨w.heap.size, 0, none⟩ = some (.bool s) := new_cell2 _ _ _ _ _ _ (by simp) rfl
  have A1 : (w.alloc (.cells #[.bool s, u, .int .i64 y] 26)).cell? ⟨w.heap.size, 1, none⟩ = some (u) := new_cell2 _ _ _ _ _ _ (by simp) rfl
  have A2 : (w.alloc (.cells #[.bool s, u, .int .i64 y] 26)).cell? ⟨w.heap.size, 2, none⟩ = some (.int .i64 y) := new_cell2 _ _ _ _ _ _ (by simp) rfl
  replace r := r.kept k0 (by omega)
  have s0 : (w.alloc (.cells #[.bool s, u, .int .i64 y] 26)).heap.size = w.heap.size + 1 := by simp
  obtain ⟨a, c, hv⟩ := Row.form' r
  subst hv
  have K := hide (k0)
  clear k0
  have S0 := hide s0
  clear s0
  go_enter Try.func3, Try.ntmps3
  go_wp2_with fail
  generalize (w.alloc (.cells #[.bool s, .slice a z.length c, .int .i64 y] 26)) = W at *
  refine (szDec_any (s) (y) _ (1048576) (by omega) (by omega) r).mono ?_
  rintro e w1 ⟨rfl, k1⟩
  replace r := r.kept k1 (.inr (.inr (Nat.le_refl 0)))
  replace A0 := k1.cell0 A0
  replace A1 := k1.cell0 A1
  replace A2 := k1.cell0 A2
  replace K := hide ((unhide K).trans k1)
  have z2 := k1.size
  clear k1
  by_cases big : (z.length : Int) ≤ 1048576
  rotate_left
  · rw [if_neg big]
    go_wp2_with fail
    go_ret
    exact ⟨rfl, (unhide K).toBelow⟩
  rw [if_pos big]
  have nb : ¬ (1048576 - (z.length : Int)) < 0 := by omega
  have hz : z.length ≤ 1099511627776 := by omega
  go_wp2_with fail
  refine (toDec_any (s) (y) _ hz r).mono ?_
  rintro e w3 ⟨v1, rfl, r1, k3⟩
  replace r := r.kept k3 (.inr (.inr (Nat.le_refl 0)))
  replace A0 := k3.cell0 A0
  replace A1 := k3.cell0 A1
  replace A2 := k3.cell0 A2
  replace K := hide ((unhide K).trans k3)
  have z4 := k3.size
  clear k3
  go_wp2_with fail
  have mk := cok_spec s y w3 r1
  rw [unhide HQ] at mk
  refine (mk).mono ?_
  rintro e w5 ⟨rfl, k5⟩
  replace r := r.kept k5 (.inr (.inr (Nat.le_refl 0)))
  replace r1 := r1.kept k5 (.inr (.inr (Nat.le_refl 0)))
  replace A0 := k5.cell0 A0
  replace A1 := k5.cell0 A1
  replace A2 := k5.cell0 A2
  replace K := hide ((unhide K).trans k5)
  have z6 := k5.size
  clear k5
  clear mk
  clear r1
  go_wp2_with fail
  refine (toDec_any (s) (y) _ hz r).mono ?_
  rintro e w7 ⟨v2, rfl, r2, k7⟩
  replace r := r.kept k7 (.inr (.inr (Nat.le_refl 0)))
  replace A0 := k7.cell0 A0
  replace A1 := k7.cell0 A1
  replace A2 := k7.cell0 A2
  replace K := hide ((unhide K).trans k7)
  have z8 := k7.size
  clear k7
  obtain ⟨a2, c2, hv⟩ := Row.form' r2
  subst hv
  have kn := (Kept.refl 0 0 w7).alloc (.cells #[.bool s, .slice a2 z.length c2, .int .i64 y] 31)
  have X0 : (w7.alloc (.cells #[.bool s, .slice a2 z.length c2, .int .i64 y] 31)).cell? ⟨w7.heap.size, 0, none⟩ = some (.bool s) := new_cell2 _ _ _ _ _ _ rfl rfl
  have X1 : (w7.alloc (.cells #[.bool s, .slice a2 z.length c2, .int .i64 y] 31)).cell? ⟨w7.heap.size, 1, none⟩ = some (.slice a2 z.length c2) := new_cell2 _ _ _ _ _ _ rfl rfl
  have X2 : (w7.alloc (.cells #[.bool s, .slice a2 z.length c2, .int .i64 y] 31)).cell? ⟨w7.heap.size, 2, none⟩ = some (.int .i64 y) := new_cell2 _ _ _ _ _ _ rfl rfl
  replace r := r.kept kn (.inr (.inr (Nat.le_refl 0)))
  replace r2 := r2.kept kn (.inr (.inr (Nat.le_refl 0)))
  replace A0 := kn.cell0 A0
  replace A1 := kn.cell0 A1
  replace A2 := kn.cell0 A2
  replace K := hide ((unhide K).trans kn)
  have z9 := kn.size
  clear kn
  go_wp2_with fail
  generalize w7.alloc (.cells #[.bool s, .slice a2 z.length c2, .int .i64 y] 31) = wx at *
  have mk := cok_impl s y wx r2
  rw [unhide HQ] at mk
  refine (mk).mono ?_
  rintro e w10 ⟨rfl, k10⟩
  replace r := r.kept k10 (.inr (.inr (Nat.le_refl 0)))
  replace r2 := r2.kept k10 (.inr (.inr (Nat.le_refl 0)))
  replace A0 := k10.cell0 A0
  replace A1 := k10.cell0 A1
  replace A2 := k10.cell0 A2
  replace X0 := k10.cell0 X0
  replace X1 := k10.cell0 X1
  replace X2 := k10.cell0 X2
  replace K := hide ((unhide K).trans k10)
  have z11 := k10.size
  clear k10
  clear mk
  go_wp2_with fail
  have kd := (Kept.refl 0 0 w10).drew
  replace r := r.kept kd (.inr (.inr (Nat.le_refl 0)))
  replace r2 := r2.kept kd (.inr (.inr (Nat.le_refl 0)))
  replace A0 := kd.cell0 A0
  replace A1 := kd.cell0 A1
  replace A2 := kd.cell0 A2
  replace X0 := kd.cell0 X0
  replace X1 := kd.cell0 X1
  replace X2 := kd.cell0 X2
  replace K := hide ((unhide K).trans kd)
  have z12 := kd.size
  clear kd
  refine wp_region_held_drew (S := (fun w' => w'.cell? ⟨w.heap.size, 0, none⟩ = some (.bool s) ∧ w'.cell? ⟨w.heap.size, 1, none⟩ = some (.slice a z.length c) ∧ w'.cell? ⟨w.heap.size, 2, none⟩ = some (.int .i64 y) ∧ w'.cell? ⟨w7.heap.size, 0, none⟩ = some (.bool s) ∧ w'.cell? ⟨w7.heap.size, 1, none⟩ = some (.slice a2 z.length c2) ∧ w'.cell? ⟨w7.heap.size, 2, none⟩ = some (.int .i64 y))) (by kernel_rfl) ?_ (fun hHeld => ?_)
  · exact ⟨A0, A1, A2, X0, X1, X2⟩
  refine wpAnyH_take (i := 0) (oi := _) (v := .agg #[.bool s, .slice a2 z.length c2, .int .i64 y]) rfl (by kernel_rfl) (by kernel_rfl) (by kernel_rfl) (fun _ _ _ h => h) (Or.inl ⟨by rfl, ?_⟩) hHeld ?_
  · intro wq hSw
    try dsimp only at hSw
    go_simp
  try simp only [Act.put, List.getElem_toArray, List.getElem_cons_succ, List.getElem_cons_zero, List.setIfInBounds_toArray, List.set_cons_zero, List.set_cons_succ]
  refine wpAnyH_take (i := 1) (oi := _) (v := .agg #[.bool s, .slice a z.length c, .int .i64 y]) rfl (by kernel_rfl) (by kernel_rfl) (by kernel_rfl) (fun _ _ _ h => h) (Or.inl ⟨by rfl, ?_⟩) hHeld ?_
  · intro wq hSw
    try dsimp only at hSw
    go_simp
  try simp only [Act.put, List.getElem_toArray, List.getElem_cons_succ, List.getElem_cons_zero, List.setIfInBounds_toArray, List.set_cons_zero, List.set_cons_succ]
  refine wpAnyH_ready (rs := [2]) (by kernel_rfl) (by simp) ?_
  refine AllReadyH.cons rfl (fun KK hK => ?_) AllReadyH.nil
  simp only [List.getElem_toArray, List.getElem_cons_succ, List.getElem_cons_zero]
  rw [if_pos (by rfl)]
  refine wps1 6 (.tmp 23) _ rfl in_toDec (.agg #[.bool s, .slice a z.length c, .int .i64 y]) rfl (toDec_any (s) (y) _ hz r) ?_
  rintro e w13 ⟨v3, rfl, r3, k13⟩
  refine ⟨_, rfl, ?_⟩
  replace r := r.kept k13 (.inr (.inr (Nat.le_refl 0)))
  replace r2 := r2.kept k13 (.inr (.inr (Nat.le_refl 0)))
  replace A0 := k13.cell0 A0
  replace A1 := k13.cell0 A1
  replace A2 := k13.cell0 A2
  replace X0 := k13.cell0 X0
  replace X1 := k13.cell0 X1
  replace X2 := k13.cell0 X2
  replace K := hide ((unhide K).trans k13)
  have z14 := k13.size
  clear k13
  clear hHeld
  refine hK.out _ _ ?_ (fun hHeld => ?_)
  · exact ⟨A0, A1, A2, X0, X1, X2⟩
  clear hK KK
  try simp only [Act.put, List.getElem_toArray, List.getElem_cons_succ, List.getElem_cons_zero, List.setIfInBounds_toArray, List.set_cons_zero, List.set_cons_succ]
  refine wpAnyH_ready (rs := [3]) (by kernel_rfl) (by simp) ?_
  refine AllReadyH.cons rfl (fun KK hK => ?_) AllReadyH.nil
  simp only [List.getElem_toArray, List.getElem_cons_succ, List.getElem_cons_zero]
  rw [if_pos (by rfl)]
  refine wps2 8 (.tmp 22) (.tmp 24) _ rfl in_eqDec (.agg #[.bool s, .slice a2 z.length c2, .int .i64 y]) (.agg #[.bool s, v3, .int .i64 y]) rfl rfl (eqDec_same (s) (y) _ r2 r3) ?_
  rintro e w15 ⟨rfl, k15⟩
  refine ⟨_, rfl, ?_⟩
  replace r := r.kept k15 (.inr (.inr (Nat.le_refl 0)))
  replace r2 := r2.kept k15 (.inr (.inr (Nat.le_refl 0)))
  replace r3 := r3.kept k15 (.inr (.inr (Nat.le_refl 0)))
  replace A0 := k15.cell0 A0
  replace A1 := k15.cell0 A1
  replace A2 := k15.cell0 A2
  replace X0 := k15.cell0 X0
  replace X1 := k15.cell0 X1
  replace X2 := k15.cell0 X2
  replace K := hide ((unhide K).trans k15)
  have z16 := k15.size
  clear k15
  clear hHeld
  refine hK.out _ _ ?_ (fun hHeld => ?_)
  · exact ⟨A0, A1, A2, X0, X1, X2⟩
  clear hK KK
  try simp only [Act.put, List.getElem_toArray, List.getElem_cons_succ, List.getElem_cons_zero, List.setIfInBounds_toArray, List.set_cons_zero, List.set_cons_succ]
  refine wpAnyH_take (i := 4) (oi := _) (v := .bool false) rfl (by kernel_rfl) (by kernel_rfl) (by kernel_rfl) (fun _ _ _ h => h) (Or.inl ⟨by rfl, ?_⟩) hHeld ?_
  · intro wq hSw
    try dsimp only at hSw
    go_simp
  try simp only [Act.put, List.getElem_toArray, List.getElem_cons_succ, List.getElem_cons_zero, List.setIfInBounds_toArray, List.set_cons_zero, List.set_cons_succ]
  refine wpAnyH_done (by kernel_rfl) ?_ _
  clear hHeld
  go_wp2_with fail
  go_ret
  exact ⟨rfl, (unhide K).toBelow⟩

end Go.Proofs.Ytbcflmpakojpfaa
