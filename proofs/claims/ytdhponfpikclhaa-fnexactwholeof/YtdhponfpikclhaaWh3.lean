/-
  Contracts of the model's WholeOf, WholeCmp, WholeNeg, WholeAdd, WholeSub, WholeMul.
-/
import Derived.Test.YtdhponfpikclhaaWh2
namespace Go.Proofs.Ytdhponfpikclhaa
open Go.RowKit
set_option linter.unusedVariables false
set_option maxRecDepth 8000
set_option linter.unusedSimpArgs false

/-- What is told: a whole number, if it is to be told and not too long. -/
def ansWB (c : Bool) (x : Int) : Bool := c && decide ((wlm x).length ≤ 100)
def ansWS (c : Bool) (x : Int) : Bool := ansWB c x && wsg x
def ansWL (c : Bool) (x : Int) : List Int := if ansWB c x = true then wlm x else []
theorem ansWB_no {c : Bool} {x : Int} (h : c = false) : ansWB c x = false := by unfold ansWB; rw [h]; rfl
theorem ansWS_no {c : Bool} {x : Int} (h : c = false) : ansWS c x = false := by unfold ansWS; rw [ansWB_no h]; rfl
theorem ansWL_no {c : Bool} {x : Int} (h : c = false) : ansWL c x = [] := by unfold ansWL; rw [ansWB_no h]; rfl
theorem ansWB_yes {c : Bool} {x : Int} (h : c = true) : ansWB c x = decide ((wlm x).length ≤ 100) := by unfold ansWB; rw [h]; rfl
theorem ansWL_len (c : Bool) (x : Int) : (ansWL c x).length ≤ 100 := by
  unfold ansWL ansWB
  split
  · rename_i h; simp at h; exact h.2
  · simp
/-- What a long whole number is told as: nought. -/
theorem ansW_told {c : Bool} {x : Int} (h : c = true) {lo hi : Nat} {w : World} {v : Value} (r : Row .i64 true lo hi w v (wlm x)) :
    ∃ v', (if (wlm x).length ≤ 100 then v else .slice none 0 0) = v' ∧ (decide ((wlm x).length ≤ 100) && wsg x) = ansWS c x ∧ decide ((wlm x).length ≤ 100) = ansWB c x ∧ Row .i64 true lo hi w v' (ansWL c x) := by
  by_cases hl : (wlm x).length ≤ 100
  · refine ⟨v, by rw [if_pos hl], by unfold ansWS; rw [ansWB_yes h], (ansWB_yes h).symm, ?_⟩
    unfold ansWL
    rw [ansWB_yes h, decide_eq_true hl, if_pos rfl]
    exact r
  · refine ⟨_, by rw [if_neg hl], by unfold ansWS; rw [ansWB_yes h], (ansWB_yes h).symm, ?_⟩
    unfold ansWL
    rw [ansWB_yes h, decide_eq_false hl, if_neg (by simp)]
    exact Row.nil _ _ _ _ _

set_option maxHeartbeats 4000000 in
theorem wholeAdd_spec {b1 b2 : Bool} {l1 h1 l2 h2 : Nat} {v1 v2 : Value} {xs ys : List Int} (s1 s2 : Bool) (w : World) (r1 : Row .i64 b1 l1 h1 w v1 xs) (r2 : Row .i64 b2 l2 h2 w v2 ys) :
    Calls Try.prog 80 #[.agg #[.bool s1, v1], .agg #[.bool s2, v2]] w fun e w' => ∃ v', e = .returned (.tuple #[.agg #[.bool (ansWS (wokB s1 xs && wokB s2 ys) (wval s1 xs + wval s2 ys)), v'], .bool (ansWB (wokB s1 xs && wokB s2 ys) (wval s1 xs + wval s2 ys))]) ∧ Row .i64 true w.heap.size w'.heap.size w' v' (ansWL (wokB s1 xs && wokB s2 ys) (wval s1 xs + wval s2 ys)) ∧ Kept 0 0 w w' := by
  have k0 : Kept 0 0 w (((w.alloc (.cells #[.bool s1, v1] 47)).alloc (.cells #[.bool s2, v2] 47)).alloc (.cells #[.bool false, .slice none 0 0] 47)) := ((((Kept.refl 0 0 w).alloc (.cells #[.bool s1, v1] 47)).alloc (.cells #[.bool s2, v2] 47)).alloc (.cells #[.bool false, .slice none 0 0] 47))
  have p0 : (((w.alloc (.cells #[.bool s1, v1] 47)).alloc (.cells #[.bool s2, v2] 47)).alloc (.cells #[.bool false, .slice none 0 0] 47)).cell? ⟨w.heap.size, 0, none⟩ = some (.bool s1) := old_cell _ (old_cell _ (new_cell2 _ _ _ _ _ _ (by simp) rfl))
  have p1 : (((w.alloc (.cells #[.bool s1, v1] 47)).alloc (.cells #[.bool s2, v2] 47)).alloc (.cells #[.bool false, .slice none 0 0] 47)).cell? ⟨w.heap.size, 1, none⟩ = some (v1) := old_cell _ (old_cell _ (new_cell2 _ _ _ _ _ _ (by simp) rfl))
  have t0 : (((w.alloc (.cells #[.bool s1, v1] 47)).alloc (.cells #[.bool s2, v2] 47)).alloc (.cells #[.bool false, .slice none 0 0] 47)).cell? ⟨w.heap.size + 1, 0, none⟩ = some (.bool s2) := old_cell _ (new_cell2 _ _ _ _ _ _ (by simp) rfl)
  have t1 : (((w.alloc (.cells #[.bool s1, v1] 47)).alloc (.cells #[.bool s2, v2] 47)).alloc (.cells #[.bool false, .slice none 0 0] 47)).cell? ⟨w.heap.size + 1, 1, none⟩ = some (v2) := old_cell _ (new_cell2 _ _ _ _ _ _ (by simp) rfl)
  have q0 : (((w.alloc (.cells #[.bool s1, v1] 47)).alloc (.cells #[.bool s2, v2] 47)).alloc (.cells #[.bool false, .slice none 0 0] 47)).cell? ⟨w.heap.size + 2, 0, none⟩ = some (.bool false) := new_cell2 _ _ _ _ _ _ (by simp) rfl
  have qf0 : (((w.alloc (.cells #[.bool s1, v1] 47)).alloc (.cells #[.bool s2, v2] 47)).alloc (.cells #[.bool false, .slice none 0 0] 47)).frozen? ⟨w.heap.size + 2, 0, none⟩ = false := new_loose2 _ _ _ _ _ (by simp)
  have q1 : (((w.alloc (.cells #[.bool s1, v1] 47)).alloc (.cells #[.bool s2, v2] 47)).alloc (.cells #[.bool false, .slice none 0 0] 47)).cell? ⟨w.heap.size + 2, 1, none⟩ = some (.slice none 0 0) := new_cell2 _ _ _ _ _ _ (by simp) rfl
  have qf1 : (((w.alloc (.cells #[.bool s1, v1] 47)).alloc (.cells #[.bool s2, v2] 47)).alloc (.cells #[.bool false, .slice none 0 0] 47)).frozen? ⟨w.heap.size + 2, 1, none⟩ = false := new_loose2 _ _ _ _ _ (by simp)
  replace r1 := r1.kept k0 (by omega)
  replace r2 := r2.kept k0 (by omega)
  have s0 : (((w.alloc (.cells #[.bool s1, v1] 47)).alloc (.cells #[.bool s2, v2] 47)).alloc (.cells #[.bool false, .slice none 0 0] 47)).heap.size = w.heap.size + 3 := by simp
  obtain ⟨a1, c1, hv⟩ := Row.form' r1
  subst hv
  obtain ⟨a2, c2, hv⟩ := Row.form' r2
  subst hv
  have K := hide (k0)
  clear k0
  have S0 := hide s0
  clear s0
  go_enter Try.func80, Try.ntmps80
  go_wp2_with fail
  generalize (((w.alloc (.cells #[.bool s1, .slice a1 xs.length c1] 47)).alloc (.cells #[.bool s2, .slice a2 ys.length c2] 47)).alloc (.cells #[.bool false, .slice none 0 0] 47)) = W at *
  refine (wok_spec s1 _ r1).mono ?_
  rintro e w1 ⟨rfl, k1⟩
  replace r1 := r1.kept k1 (by omega)
  replace r2 := r2.kept k1 (by omega)
  replace qf0 := k1.loose0 (World.block_lt_of_cell? _ _ q0) qf0
  replace qf1 := k1.loose0 (World.block_lt_of_cell? _ _ q1) qf1
  replace p0 := k1.cell0 p0
  replace p1 := k1.cell0 p1
  replace t0 := k1.cell0 t0
  replace t1 := k1.cell0 t1
  replace q0 := k1.cell0 q0
  replace q1 := k1.cell0 q1
  replace K := hide ((unhide K).trans k1)
  have z2 := k1.size
  clear k1
  cases ho1 : wokB s1 xs
  · have HO := hide ho1
    clear ho1
    have K' := hide (((unhide K).setNew (p := ⟨w.heap.size + 2, 0, none⟩) (by simp) (.bool false)).setNew (p := ⟨w.heap.size + 2, 1, none⟩) (by simp) (.slice none 0 0))
    have e0 : Hid ((wokB s1 xs && wokB s2 ys) = false) := by show _ = _; simp [unhide HO]
    clear r1 r2 K
    go_wp2_with fail
    exact bodyPost_ret (v := .tuple #[.agg #[.bool false, .slice none 0 0], .bool false]) (by simp [results, Try.results80, go_sem, q0, q1]) rfl ⟨_, by rw [ansWB_no (unhide e0), ansWS_no (unhide e0)], by rw [ansWL_no (unhide e0)]; exact Row.nil _ _ _ _ _, unhide K'⟩
  have HO1 := hide ho1
  clear ho1
  go_wp2_with fail
  refine (wok_spec s2 _ r2).mono ?_
  rintro e w3 ⟨rfl, k3⟩
  replace r1 := r1.kept k3 (by omega)
  replace r2 := r2.kept k3 (by omega)
  replace qf0 := k3.loose0 (World.block_lt_of_cell? _ _ q0) qf0
  replace qf1 := k3.loose0 (World.block_lt_of_cell? _ _ q1) qf1
  replace p0 := k3.cell0 p0
  replace p1 := k3.cell0 p1
  replace t0 := k3.cell0 t0
  replace t1 := k3.cell0 t1
  replace q0 := k3.cell0 q0
  replace q1 := k3.cell0 q1
  replace K := hide ((unhide K).trans k3)
  have z4 := k3.size
  clear k3
  cases ho2 : wokB s2 ys
  · have HO := hide ho2
    clear ho2
    have K' := hide (((unhide K).setNew (p := ⟨w.heap.size + 2, 0, none⟩) (by simp) (.bool false)).setNew (p := ⟨w.heap.size + 2, 1, none⟩) (by simp) (.slice none 0 0))
    have e0 : Hid ((wokB s1 xs && wokB s2 ys) = false) := by show _ = _; simp [unhide HO]
    clear r1 r2 K
    go_wp2_with fail
    exact bodyPost_ret (v := .tuple #[.agg #[.bool false, .slice none 0 0], .bool false]) (by simp [results, Try.results80, go_sem, q0, q1]) rfl ⟨_, by rw [ansWB_no (unhide e0), ansWS_no (unhide e0)], by rw [ansWL_no (unhide e0)]; exact Row.nil _ _ _ _ _, unhide K'⟩
  have HO2 := hide ho2
  clear ho2
  obtain ⟨-, -, lx, hx⟩ := wok_int (unhide HO1)
  obtain ⟨-, -, ly, hy⟩ := wok_int (unhide HO2)
  have nx : xs.length ≤ 100000 := by omega
  have ny : ys.length ≤ 100000 := by omega
  obtain ⟨X, hX⟩ : ∃ X : Int, wval s1 xs + wval s2 ys = X := ⟨_, rfl⟩
  have HX := hide hX
  clear hX
  go_wp2_with fail
  have mk := add3_spec s1 s2 w3 r1 r2 hx hy nx ny
  rw [unhide HX] at mk
  refine (mk).mono ?_
  rintro e w5 ⟨v3, rfl, r3, k5⟩
  replace r1 := r1.kept k5 (by omega)
  replace r2 := r2.kept k5 (by omega)
  replace qf0 := k5.loose0 (World.block_lt_of_cell? _ _ q0) qf0
  replace qf1 := k5.loose0 (World.block_lt_of_cell? _ _ q1) qf1
  replace p0 := k5.cell0 p0
  replace p1 := k5.cell0 p1
  replace t0 := k5.cell0 t0
  replace t1 := k5.cell0 t1
  replace q0 := k5.cell0 q0
  replace q1 := k5.cell0 q1
  replace K := hide ((unhide K).trans k5)
  have z6 := k5.size
  clear k5
  clear mk
  go_wp2_with fail
  refine (fits3_spec _ _ r3).mono ?_
  rintro e w7 ⟨rfl, k7⟩
  replace r1 := r1.kept k7 (by omega)
  replace r2 := r2.kept k7 (by omega)
  replace r3 := r3.kept k7 (by omega)
  replace qf0 := k7.loose0 (World.block_lt_of_cell? _ _ q0) qf0
  replace qf1 := k7.loose0 (World.block_lt_of_cell? _ _ q1) qf1
  replace p0 := k7.cell0 p0
  replace p1 := k7.cell0 p1
  replace t0 := k7.cell0 t0
  replace t1 := k7.cell0 t1
  replace q0 := k7.cell0 q0
  replace q1 := k7.cell0 q1
  replace K := hide ((unhide K).trans k7)
  have z8 := k7.size
  clear k7
  obtain ⟨v6, hv6, hs6, hb6, R6⟩ := ansW_told (c := wokB s1 xs && wokB s2 ys) (by rw [unhide HO1, unhide HO2]; rfl) r3
  rw [hv6, hs6, hb6]
  clear hv6 hs6 hb6
  obtain ⟨zz, hzz⟩ : ∃ zz, ansWL (wokB s1 xs && wokB s2 ys) X = zz := ⟨_, rfl⟩
  obtain ⟨ss, hss⟩ : ∃ ss, ansWS (wokB s1 xs && wokB s2 ys) X = ss := ⟨_, rfl⟩
  obtain ⟨bb, hbb⟩ : ∃ bb, ansWB (wokB s1 xs && wokB s2 ys) X = bb := ⟨_, rfl⟩
  rw [hzz] at R6
  rw [hss, hbb]
  have HZ := hide hzz
  have HS := hide hss
  have HB := hide hbb
  clear hzz hss hbb
  obtain ⟨a6, c6, hv⟩ := Row.form' R6
  subst hv
  have bX : w.heap.size + 2 < w7.heap.size := World.block_lt_of_cell? _ _ q0
  have R := hide (((R6.set_other (p := ⟨w.heap.size + 2, 0, none⟩) (.inl (by have := unhide S0; dsimp only; omega)) (.bool ss)).set_other (p := ⟨w.heap.size + 2, 1, none⟩) (.inl (by have := unhide S0; dsimp only; omega)) (.slice a6 zz.length c6)).tight.wider (lo' := w.heap.size) (by have := unhide S0; omega) (Nat.le_refl _))
  have K7 := hide (((unhide K).setNew (p := ⟨w.heap.size + 2, 0, none⟩) (by simp) (.bool ss)).setNew (p := ⟨w.heap.size + 2, 1, none⟩) (by simp) (.slice a6 zz.length c6))
  clear r1 r2 r3 R6 K
  go_wp2_with fail
  exact bodyPost_ret (v := .tuple #[.agg #[.bool ss, .slice a6 zz.length c6], .bool bb]) (by simp [results, Try.results80, go_sem, q0, q1]) rfl ⟨_, by rw [unhide HX, unhide HB, unhide HS], by rw [unhide HX, unhide HZ]; exact unhide R, unhide K7⟩

set_option maxHeartbeats 4000000 in
theorem wholeMul_spec {b1 b2 : Bool} {l1 h1 l2 h2 : Nat} {v1 v2 : Value} {xs ys : List Int} (s1 s2 : Bool) (w : World) (r1 : Row .i64 b1 l1 h1 w v1 xs) (r2 : Row .i64 b2 l2 h2 w v2 ys) :
    Calls Try.prog 82 #[.agg #[.bool s1, v1], .agg #[.bool s2, v2]] w fun e w' => ∃ v', e = .returned (.tuple #[.agg #[.bool (ansWS (wokB s1 xs && wokB s2 ys) (wval s1 xs * wval s2 ys)), v'], .bool (ansWB (wokB s1 xs && wokB s2 ys) (wval s1 xs * wval s2 ys))]) ∧ Row .i64 true w.heap.size w'.heap.size w' v' (ansWL (wokB s1 xs && wokB s2 ys) (wval s1 xs * wval s2 ys)) ∧ Kept 0 0 w w' := by
  have k0 : Kept 0 0 w (((w.alloc (.cells #[.bool s1, v1] 47)).alloc (.cells #[.bool s2, v2] 47)).alloc (.cells #[.bool false, .slice none 0 0] 47)) := ((((Kept.refl 0 0 w).alloc (.cells #[.bool s1, v1] 47)).alloc (.cells #[.bool s2, v2] 47)).alloc (.cells #[.bool false, .slice none 0 0] 47))
  have p0 : (((w.alloc (.cells #[.bool s1, v1] 47)).alloc (.cells #[.bool s2, v2] 47)).alloc (.cells #[.bool false, .slice none 0 0] 47)).cell? ⟨w.heap.size, 0, none⟩ = some (.bool s1) := old_cell _ (old_cell _ (new_cell2 _ _ _ _ _ _ (by simp) rfl))
  have p1 : (((w.alloc (.cells #[.bool s1, v1] 47)).alloc (.cells #[.bool s2, v2] 47)).alloc (.cells #[.bool false, .slice none 0 0] 47)).cell? ⟨w.heap.size, 1, none⟩ = some (v1) := old_cell _ (old_cell _ (new_cell2 _ _ _ _ _ _ (by simp) rfl))
  have t0 : (((w.alloc (.cells #[.bool s1, v1] 47)).alloc (.cells #[.bool s2, v2] 47)).alloc (.cells #[.bool false, .slice none 0 0] 47)).cell? ⟨w.heap.size + 1, 0, none⟩ = some (.bool s2) := old_cell _ (new_cell2 _ _ _ _ _ _ (by simp) rfl)
  have t1 : (((w.alloc (.cells #[.bool s1, v1] 47)).alloc (.cells #[.bool s2, v2] 47)).alloc (.cells #[.bool false, .slice none 0 0] 47)).cell? ⟨w.heap.size + 1, 1, none⟩ = some (v2) := old_cell _ (new_cell2 _ _ _ _ _ _ (by simp) rfl)
  have q0 : (((w.alloc (.cells #[.bool s1, v1] 47)).alloc (.cells #[.bool s2, v2] 47)).alloc (.cells #[.bool false, .slice none 0 0] 47)).cell? ⟨w.heap.size + 2, 0, none⟩ = some (.bool false) := new_cell2 _ _ _ _ _ _ (by simp) rfl
  have qf0 : (((w.alloc (.cells #[.bool s1, v1] 47)).alloc (.cells #[.bool s2, v2] 47)).alloc (.cells #[.bool false, .slice none 0 0] 47)).frozen? ⟨w.heap.size + 2, 0, none⟩ = false := new_loose2 _ _ _ _ _ (by simp)
  have q1 : (((w.alloc (.cells #[.bool s1, v1] 47)).alloc (.cells #[.bool s2, v2] 47)).alloc (.cells #[.bool false, .slice none 0 0] 47)).cell? ⟨w.heap.size + 2, 1, none⟩ = some (.slice none 0 0) := new_cell2 _ _ _ _ _ _ (by simp) rfl
  have qf1 : (((w.alloc (.cells #[.bool s1, v1] 47)).alloc (.cells #[.bool s2, v2] 47)).alloc (.cells #[.bool false, .slice none 0 0] 47)).frozen? ⟨w.heap.size + 2, 1, none⟩ = false := new_loose2 _ _ _ _ _ (by simp)
  replace r1 := r1.kept k0 (by omega)
  replace r2 := r2.kept k0 (by omega)
  have s0 : (((w.alloc (.cells #[.bool s1, v1] 47)).alloc (.cells #[.bool s2, v2] 47)).alloc (.cells #[.bool false, .slice none 0 0] 47)).heap.size = w.heap.size + 3 := by simp
  obtain ⟨a1, c1, hv⟩ := Row.form' r1
  subst hv
  obtain ⟨a2, c2, hv⟩ := Row.form' r2
  subst hv
  have K := hide (k0)
  clear k0
  have S0 := hide s0
  clear s0
  go_enter Try.func82, Try.ntmps82
  go_wp2_with fail
  generalize (((w.alloc (.cells #[.bool s1, .slice a1 xs.length c1] 47)).alloc (.cells #[.bool s2, .slice a2 ys.length c2] 47)).alloc (.cells #[.bool false, .slice none 0 0] 47)) = W at *
  refine (wok_spec s1 _ r1).mono ?_
  rintro e w1 ⟨rfl, k1⟩
  replace r1 := r1.kept k1 (by omega)
  replace r2 := r2.kept k1 (by omega)
  replace qf0 := k1.loose0 (World.block_lt_of_cell? _ _ q0) qf0
  replace qf1 := k1.loose0 (World.block_lt_of_cell? _ _ q1) qf1
  replace p0 := k1.cell0 p0
  replace p1 := k1.cell0 p1
  replace t0 := k1.cell0 t0
  replace t1 := k1.cell0 t1
  replace q0 := k1.cell0 q0
  replace q1 := k1.cell0 q1
  replace K := hide ((unhide K).trans k1)
  have z2 := k1.size
  clear k1
  cases ho1 : wokB s1 xs
  · have HO := hide ho1
    clear ho1
    have K' := hide (((unhide K).setNew (p := ⟨w.heap.size + 2, 0, none⟩) (by simp) (.bool false)).setNew (p := ⟨w.heap.size + 2, 1, none⟩) (by simp) (.slice none 0 0))
    have e0 : Hid ((wokB s1 xs && wokB s2 ys) = false) := by show _ = _; simp [unhide HO]
    clear r1 r2 K
    go_wp2_with fail
    exact bodyPost_ret (v := .tuple #[.agg #[.bool false, .slice none 0 0], .bool false]) (by simp [results, Try.results82, go_sem, q0, q1]) rfl ⟨_, by rw [ansWB_no (unhide e0), ansWS_no (unhide e0)], by rw [ansWL_no (unhide e0)]; exact Row.nil _ _ _ _ _, unhide K'⟩
  have HO1 := hide ho1
  clear ho1
  go_wp2_with fail
  refine (wok_spec s2 _ r2).mono ?_
  rintro e w3 ⟨rfl, k3⟩
  replace r1 := r1.kept k3 (by omega)
  replace r2 := r2.kept k3 (by omega)
  replace qf0 := k3.loose0 (World.block_lt_of_cell? _ _ q0) qf0
  replace qf1 := k3.loose0 (World.block_lt_of_cell? _ _ q1) qf1
  replace p0 := k3.cell0 p0
  replace p1 := k3.cell0 p1
  replace t0 := k3.cell0 t0
  replace t1 := k3.cell0 t1
  replace q0 := k3.cell0 q0
  replace q1 := k3.cell0 q1
  replace K := hide ((unhide K).trans k3)
  have z4 := k3.size
  clear k3
  cases ho2 : wokB s2 ys
  · have HO := hide ho2
    clear ho2
    have K' := hide (((unhide K).setNew (p := ⟨w.heap.size + 2, 0, none⟩) (by simp) (.bool false)).setNew (p := ⟨w.heap.size + 2, 1, none⟩) (by simp) (.slice none 0 0))
    have e0 : Hid ((wokB s1 xs && wokB s2 ys) = false) := by show _ = _; simp [unhide HO]
    clear r1 r2 K
    go_wp2_with fail
    exact bodyPost_ret (v := .tuple #[.agg #[.bool false, .slice none 0 0], .bool false]) (by simp [results, Try.results82, go_sem, q0, q1]) rfl ⟨_, by rw [ansWB_no (unhide e0), ansWS_no (unhide e0)], by rw [ansWL_no (unhide e0)]; exact Row.nil _ _ _ _ _, unhide K'⟩
  have HO2 := hide ho2
  clear ho2
  obtain ⟨-, -, lx, hx⟩ := wok_int (unhide HO1)
  obtain ⟨-, -, ly, hy⟩ := wok_int (unhide HO2)
  have nx : xs.length ≤ 100000 := by omega
  have ny : ys.length ≤ 100000 := by omega
  obtain ⟨X, hX⟩ : ∃ X : Int, wval s1 xs * wval s2 ys = X := ⟨_, rfl⟩
  have HX := hide hX
  clear hX
  go_wp2_with fail
  have mk := mul3_spec s1 s2 w3 r1 r2 hx hy nx ny
  rw [unhide HX] at mk
  refine (mk).mono ?_
  rintro e w5 ⟨v3, rfl, r3, k5⟩
  replace r1 := r1.kept k5 (by omega)
  replace r2 := r2.kept k5 (by omega)
  replace qf0 := k5.loose0 (World.block_lt_of_cell? _ _ q0) qf0
  replace qf1 := k5.loose0 (World.block_lt_of_cell? _ _ q1) qf1
  replace p0 := k5.cell0 p0
  replace p1 := k5.cell0 p1
  replace t0 := k5.cell0 t0
  replace t1 := k5.cell0 t1
  replace q0 := k5.cell0 q0
  replace q1 := k5.cell0 q1
  replace K := hide ((unhide K).trans k5)
  have z6 := k5.size
  clear k5
  clear mk
  go_wp2_with fail
  refine (fits3_spec _ _ r3).mono ?_
  rintro e w7 ⟨rfl, k7⟩
  replace r1 := r1.kept k7 (by omega)
  replace r2 := r2.kept k7 (by omega)
  replace r3 := r3.kept k7 (by omega)
  replace qf0 := k7.loose0 (World.block_lt_of_cell? _ _ q0) qf0
  replace qf1 := k7.loose0 (World.block_lt_of_cell? _ _ q1) qf1
  replace p0 := k7.cell0 p0
  replace p1 := k7.cell0 p1
  replace t0 := k7.cell0 t0
  replace t1 := k7.cell0 t1
  replace q0 := k7.cell0 q0
  replace q1 := k7.cell0 q1
  replace K := hide ((unhide K).trans k7)
  have z8 := k7.size
  clear k7
  obtain ⟨v6, hv6, hs6, hb6, R6⟩ := ansW_told (c := wokB s1 xs && wokB s2 ys) (by rw [unhide HO1, unhide HO2]; rfl) r3
  rw [hv6, hs6, hb6]
  clear hv6 hs6 hb6
  obtain ⟨zz, hzz⟩ : ∃ zz, ansWL (wokB s1 xs && wokB s2 ys) X = zz := ⟨_, rfl⟩
  obtain ⟨ss, hss⟩ : ∃ ss, ansWS (wokB s1 xs && wokB s2 ys) X = ss := ⟨_, rfl⟩
  obtain ⟨bb, hbb⟩ : ∃ bb, ansWB (wokB s1 xs && wokB s2 ys) X = bb := ⟨_, rfl⟩
  rw [hzz] at R6
  rw [hss, hbb]
  have HZ := hide hzz
  have HS := hide hss
  have HB := hide hbb
  clear hzz hss hbb
  obtain ⟨a6, c6, hv⟩ := Row.form' R6
  subst hv
  have bX : w.heap.size + 2 < w7.heap.size := World.block_lt_of_cell? _ _ q0
  have R := hide (((R6.set_other (p := ⟨w.heap.size + 2, 0, none⟩) (.inl (by have := unhide S0; dsimp only; omega)) (.bool ss)).set_other (p := ⟨w.heap.size + 2, 1, none⟩) (.inl (by have := unhide S0; dsimp only; omega)) (.slice a6 zz.length c6)).tight.wider (lo' := w.heap.size) (by have := unhide S0; omega) (Nat.le_refl _))
  have K7 := hide (((unhide K).setNew (p := ⟨w.heap.size + 2, 0, none⟩) (by simp) (.bool ss)).setNew (p := ⟨w.heap.size + 2, 1, none⟩) (by simp) (.slice a6 zz.length c6))
  clear r1 r2 r3 R6 K
  go_wp2_with fail
  exact bodyPost_ret (v := .tuple #[.agg #[.bool ss, .slice a6 zz.length c6], .bool bb]) (by simp [results, Try.results82, go_sem, q0, q1]) rfl ⟨_, by rw [unhide HX, unhide HB, unhide HS], by rw [unhide HX, unhide HZ]; exact unhide R, unhide K7⟩

set_option maxHeartbeats 4000000 in
theorem wholeSub_spec {b1 b2 : Bool} {l1 h1 l2 h2 : Nat} {v1 v2 : Value} {xs ys : List Int} (s1 s2 : Bool) (w : World) (r1 : Row .i64 b1 l1 h1 w v1 xs) (r2 : Row .i64 b2 l2 h2 w v2 ys) :
    Calls Try.prog 81 #[.agg #[.bool s1, v1], .agg #[.bool s2, v2]] w fun e w' => ∃ v', e = .returned (.tuple #[.agg #[.bool (ansWS (wokB s1 xs && wokB s2 ys) (wval s1 xs - wval s2 ys)), v'], .bool (ansWB (wokB s1 xs && wokB s2 ys) (wval s1 xs - wval s2 ys))]) ∧ Row .i64 true w.heap.size w'.heap.size w' v' (ansWL (wokB s1 xs && wokB s2 ys) (wval s1 xs - wval s2 ys)) ∧ Kept 0 0 w w' := by
  have k0 : Kept 0 0 w (((w.alloc (.cells #[.bool s1, v1] 47)).alloc (.cells #[.bool s2, v2] 47)).alloc (.cells #[.bool false, .slice none 0 0] 47)) := ((((Kept.refl 0 0 w).alloc (.cells #[.bool s1, v1] 47)).alloc (.cells #[.bool s2, v2] 47)).alloc (.cells #[.bool false, .slice none 0 0] 47))
  have p0 : (((w.alloc (.cells #[.bool s1, v1] 47)).alloc (.cells #[.bool s2, v2] 47)).alloc (.cells #[.bool false, .slice none 0 0] 47)).cell? ⟨w.heap.size, 0, none⟩ = some (.bool s1) := old_cell _ (old_cell _ (new_cell2 _ _ _ _ _ _ (by simp) rfl))
  have p1 : (((w.alloc (.cells #[.bool s1, v1] 47)).alloc (.cells #[.bool s2, v2] 47)).alloc (.cells #[.bool false, .slice none 0 0] 47)).cell? ⟨w.heap.size, 1, none⟩ = some (v1) := old_cell _ (old_cell _ (new_cell2 _ _ _ _ _ _ (by simp) rfl))
  have t0 : (((w.alloc (.cells #[.bool s1, v1] 47)).alloc (.cells #[.bool s2, v2] 47)).alloc (.cells #[.bool false, .slice none 0 0] 47)).cell? ⟨w.heap.size + 1, 0, none⟩ = some (.bool s2) := old_cell _ (new_cell2 _ _ _ _ _ _ (by simp) rfl)
  have t1 : (((w.alloc (.cells #[.bool s1, v1] 47)).alloc (.cells #[.bool s2, v2] 47)).alloc (.cells #[.bool false, .slice none 0 0] 47)).cell? ⟨w.heap.size + 1, 1, none⟩ = some (v2) := old_cell _ (new_cell2 _ _ _ _ _ _ (by simp) rfl)
  have q0 : (((w.alloc (.cells #[.bool s1, v1] 47)).alloc (.cells #[.bool s2, v2] 47)).alloc (.cells #[.bool false, .slice none 0 0] 47)).cell? ⟨w.heap.size + 2, 0, none⟩ = some (.bool false) := new_cell2 _ _ _ _ _ _ (by simp) rfl
  have qf0 : (((w.alloc (.cells #[.bool s1, v1] 47)).alloc (.cells #[.bool s2, v2] 47)).alloc (.cells #[.bool false, .slice none 0 0] 47)).frozen? ⟨w.heap.size + 2, 0, none⟩ = false := new_loose2 _ _ _ _ _ (by simp)
  have q1 : (((w.alloc (.cells #[.bool s1, v1] 47)).alloc (.cells #[.bool s2, v2] 47)).alloc (.cells #[.bool false, .slice none 0 0] 47)).cell? ⟨w.heap.size + 2, 1, none⟩ = some (.slice none 0 0) := new_cell2 _ _ _ _ _ _ (by simp) rfl
  have qf1 : (((w.alloc (.cells #[.bool s1, v1] 47)).alloc (.cells #[.bool s2, v2] 47)).alloc (.cells #[.bool false, .slice none 0 0] 47)).frozen? ⟨w.heap.size + 2, 1, none⟩ = false := new_loose2 _ _ _ _ _ (by simp)
  replace r1 := r1.kept k0 (by omega)
  replace r2 := r2.kept k0 (by omega)
  have s0 : (((w.alloc (.cells #[.bool s1, v1] 47)).alloc (.cells #[.bool s2, v2] 47)).alloc (.cells #[.bool false, .slice none 0 0] 47)).heap.size = w.heap.size + 3 := by simp
  obtain ⟨a1, c1, hv⟩ := Row.form' r1
  subst hv
  obtain ⟨a2, c2, hv⟩ := Row.form' r2
  subst hv
  have K := hide (k0)
  clear k0
  have S0 := hide s0
  clear s0
  go_enter Try.func81, Try.ntmps81
  go_wp2_with fail
  generalize (((w.alloc (.cells #[.bool s1, .slice a1 xs.length c1] 47)).alloc (.cells #[.bool s2, .slice a2 ys.length c2] 47)).alloc (.cells #[.bool false, .slice none 0 0] 47)) = W at *
  refine (wok_spec s1 _ r1).mono ?_
  rintro e w1 ⟨rfl, k1⟩
  replace r1 := r1.kept k1 (by omega)
  replace r2 := r2.kept k1 (by omega)
  replace qf0 := k1.loose0 (World.block_lt_of_cell? _ _ q0) qf0
  replace qf1 := k1.loose0 (World.block_lt_of_cell? _ _ q1) qf1
  replace p0 := k1.cell0 p0
  replace p1 := k1.cell0 p1
  replace t0 := k1.cell0 t0
  replace t1 := k1.cell0 t1
  replace q0 := k1.cell0 q0
  replace q1 := k1.cell0 q1
  replace K := hide ((unhide K).trans k1)
  have z2 := k1.size
  clear k1
  cases ho1 : wokB s1 xs
  · have HO := hide ho1
    clear ho1
    have K' := hide (((unhide K).setNew (p := ⟨w.heap.size + 2, 0, none⟩) (by simp) (.bool false)).setNew (p := ⟨w.heap.size + 2, 1, none⟩) (by simp) (.slice none 0 0))
    have e0 : Hid ((wokB s1 xs && wokB s2 ys) = false) := by show _ = _; simp [unhide HO]
    clear r1 r2 K
    go_wp2_with fail
    exact bodyPost_ret (v := .tuple #[.agg #[.bool false, .slice none 0 0], .bool false]) (by simp [results, Try.results81, go_sem, q0, q1]) rfl ⟨_, by rw [ansWB_no (unhide e0), ansWS_no (unhide e0)], by rw [ansWL_no (unhide e0)]; exact Row.nil _ _ _ _ _, unhide K'⟩
  have HO1 := hide ho1
  clear ho1
  go_wp2_with fail
  refine (wok_spec s2 _ r2).mono ?_
  rintro e w3 ⟨rfl, k3⟩
  replace r1 := r1.kept k3 (by omega)
  replace r2 := r2.kept k3 (by omega)
  replace qf0 := k3.loose0 (World.block_lt_of_cell? _ _ q0) qf0
  replace qf1 := k3.loose0 (World.block_lt_of_cell? _ _ q1) qf1
  replace p0 := k3.cell0 p0
  replace p1 := k3.cell0 p1
  replace t0 := k3.cell0 t0
  replace t1 := k3.cell0 t1
  replace q0 := k3.cell0 q0
  replace q1 := k3.cell0 q1
  replace K := hide ((unhide K).trans k3)
  have z4 := k3.size
  clear k3
  cases ho2 : wokB s2 ys
  · have HO := hide ho2
    clear ho2
    have K' := hide (((unhide K).setNew (p := ⟨w.heap.size + 2, 0, none⟩) (by simp) (.bool false)).setNew (p := ⟨w.heap.size + 2, 1, none⟩) (by simp) (.slice none 0 0))
    have e0 : Hid ((wokB s1 xs && wokB s2 ys) = false) := by show _ = _; simp [unhide HO]
    clear r1 r2 K
    go_wp2_with fail
    exact bodyPost_ret (v := .tuple #[.agg #[.bool false, .slice none 0 0], .bool false]) (by simp [results, Try.results81, go_sem, q0, q1]) rfl ⟨_, by rw [ansWB_no (unhide e0), ansWS_no (unhide e0)], by rw [ansWL_no (unhide e0)]; exact Row.nil _ _ _ _ _, unhide K'⟩
  have HO2 := hide ho2
  clear ho2
  obtain ⟨-, -, lx, hx⟩ := wok_int (unhide HO1)
  obtain ⟨-, -, ly, hy⟩ := wok_int (unhide HO2)
  have nx : xs.length ≤ 100000 := by omega
  have ny : ys.length ≤ 100000 := by omega
  obtain ⟨X, hX⟩ : ∃ X : Int, wval s1 xs - wval s2 ys = X := ⟨_, rfl⟩
  have HX := hide hX
  clear hX
  go_wp2_with fail
  have ly' : (wlm (- wval s2 ys)).length ≤ 100000 := by rw [show wlm (- wval s2 ys) = wlm (wval s2 ys) from by unfold wlm; simp, wlm_wval s2 hy.1, ← nrm_limbs hy]; exact ny
  have mk := fun v w r1 r5 => add3_spec (b1 := b1) (b2 := true) (l1 := l1) (h1 := h1) (l2 := w3.drew.heap.size) (h2 := w.heap.size) (v1 := .slice a1 xs.length c1) (v2 := v) s1 (wsg (- wval s2 ys)) w r1 r5 hx (wlm_nrm (- wval s2 ys)) nx ly'
  simp only [wval_int, show wval s1 xs + - wval s2 ys = X from by rw [← unhide HX]; omega] at mk
  have mn := fun w r => neg3_spec (bw := b2) (lo := l2) (hi := h2) (v := .slice a2 ys.length c2) s2 w r hy (by omega)
  generalize wlm (- wval s2 ys) = yy at *
  generalize wsg (- wval s2 ys) = sy at *
  have kd := (Kept.refl 0 0 w3).drew
  replace r1 := r1.kept kd (by omega)
  replace r2 := r2.kept kd (by omega)
  replace qf0 := kd.loose0 (World.block_lt_of_cell? _ _ q0) qf0
  replace qf1 := kd.loose0 (World.block_lt_of_cell? _ _ q1) qf1
  replace p0 := kd.cell0 p0
  replace p1 := kd.cell0 p1
  replace t0 := kd.cell0 t0
  replace t1 := kd.cell0 t1
  replace q0 := kd.cell0 q0
  replace q1 := kd.cell0 q1
  replace K := hide ((unhide K).trans kd)
  have z5 := kd.size
  clear kd
  refine wp_region_held_drew (S := (fun w' => w'.cell? ⟨w.heap.size, 0, none⟩ = some (.bool s1) ∧ w'.cell? ⟨w.heap.size, 1, none⟩ = some (.slice a1 xs.length c1) ∧ w'.cell? ⟨w.heap.size + 1, 0, none⟩ = some (.bool s2) ∧ w'.cell? ⟨w.heap.size + 1, 1, none⟩ = some (.slice a2 ys.length c2))) (by kernel_rfl) ?_ (fun hHeld => ?_)
  · exact ⟨p0, p1, t0, t1⟩
  refine wpAnyH_take (i := 0) (oi := _) (v := .agg #[.bool s1, .slice a1 xs.length c1]) rfl (by kernel_rfl) (by kernel_rfl) (by kernel_rfl) (fun _ _ _ h => h) (Or.inl ⟨by rfl, ?_⟩) hHeld ?_
  · intro wq hSw
    try dsimp only at hSw
    go_simp
  try simp only [Act.put, List.getElem_toArray, List.getElem_cons_succ, List.getElem_cons_zero, List.setIfInBounds_toArray, List.set_cons_zero, List.set_cons_succ]
  refine wpAnyH_take (i := 1) (oi := _) (v := .agg #[.bool s2, .slice a2 ys.length c2]) rfl (by kernel_rfl) (by kernel_rfl) (by kernel_rfl) (fun _ _ _ h => h) (Or.inl ⟨by rfl, ?_⟩) hHeld ?_
  · intro wq hSw
    try dsimp only at hSw
    go_simp
  try simp only [Act.put, List.getElem_toArray, List.getElem_cons_succ, List.getElem_cons_zero, List.setIfInBounds_toArray, List.set_cons_zero, List.set_cons_succ]
  refine wpAnyH_ready (rs := [2]) (by kernel_rfl) (by simp) ?_
  refine AllReadyH.cons rfl (fun KK hK => ?_) AllReadyH.nil
  simp only [List.getElem_toArray, List.getElem_cons_succ, List.getElem_cons_zero]
  rw [if_pos (by rfl)]
  refine wps1 131 (.tmp 16) _ rfl in_l3neg (.agg #[.bool s2, .slice a2 ys.length c2]) rfl (mn _ r2) ?_
  rintro e w6 ⟨v5, rfl, r5, k6⟩
  refine ⟨_, rfl, ?_⟩
  replace r1 := r1.kept k6 (by omega)
  replace r2 := r2.kept k6 (by omega)
  replace qf0 := k6.loose0 (World.block_lt_of_cell? _ _ q0) qf0
  replace qf1 := k6.loose0 (World.block_lt_of_cell? _ _ q1) qf1
  replace p0 := k6.cell0 p0
  replace p1 := k6.cell0 p1
  replace t0 := k6.cell0 t0
  replace t1 := k6.cell0 t1
  replace q0 := k6.cell0 q0
  replace q1 := k6.cell0 q1
  replace K := hide ((unhide K).trans k6)
  have z7 := k6.size
  clear k6
  clear hHeld
  refine hK.out _ _ ?_ (fun hHeld => ?_)
  · exact ⟨p0, p1, t0, t1⟩
  clear hK KK
  try simp only [Act.put, List.getElem_toArray, List.getElem_cons_succ, List.getElem_cons_zero, List.setIfInBounds_toArray, List.set_cons_zero, List.set_cons_succ]
  refine wpAnyH_ready (rs := [3]) (by kernel_rfl) (by simp) ?_
  refine AllReadyH.cons rfl (fun KK hK => ?_) AllReadyH.nil
  simp only [List.getElem_toArray, List.getElem_cons_succ, List.getElem_cons_zero]
  rw [if_pos (by rfl)]
  refine wps2 133 (.tmp 15) (.tmp 17) _ rfl in_l3add (.agg #[.bool s1, .slice a1 xs.length c1]) (.agg #[.bool sy, v5]) rfl rfl (mk v5 _ r1 r5.tight) ?_
  rintro e w8 ⟨v3, rfl, r3, k8⟩
  refine ⟨_, rfl, ?_⟩
  replace r1 := r1.kept k8 (by omega)
  replace r2 := r2.kept k8 (by omega)
  replace r5 := r5.kept k8 (by omega)
  replace qf0 := k8.loose0 (World.block_lt_of_cell? _ _ q0) qf0
  replace qf1 := k8.loose0 (World.block_lt_of_cell? _ _ q1) qf1
  replace p0 := k8.cell0 p0
  replace p1 := k8.cell0 p1
  replace t0 := k8.cell0 t0
  replace t1 := k8.cell0 t1
  replace q0 := k8.cell0 q0
  replace q1 := k8.cell0 q1
  replace K := hide ((unhide K).trans k8)
  have z9 := k8.size
  clear k8
  clear hHeld
  refine hK.out _ _ ?_ (fun hHeld => ?_)
  · exact ⟨p0, p1, t0, t1⟩
  clear hK KK
  try simp only [Act.put, List.getElem_toArray, List.getElem_cons_succ, List.getElem_cons_zero, List.setIfInBounds_toArray, List.set_cons_zero, List.set_cons_succ]
  refine wpAnyH_ready (rs := [4]) (by kernel_rfl) (by simp) ?_
  refine AllReadyH.cons rfl (fun KK hK => ?_) AllReadyH.nil
  simp only [List.getElem_toArray, List.getElem_cons_succ, List.getElem_cons_zero]
  rw [if_pos (by rfl)]
  refine wps1 132 (.tmp 18) _ rfl in_l3fits (.agg #[.bool (wsg X), v3]) rfl (fits3_spec _ _ r3) ?_
  rintro e w10 ⟨rfl, k10⟩
  refine ⟨_, rfl, ?_⟩
  replace r1 := r1.kept k10 (by omega)
  replace r2 := r2.kept k10 (by omega)
  replace r5 := r5.kept k10 (by omega)
  replace r3 := r3.kept k10 (by omega)
  replace qf0 := k10.loose0 (World.block_lt_of_cell? _ _ q0) qf0
  replace qf1 := k10.loose0 (World.block_lt_of_cell? _ _ q1) qf1
  replace p0 := k10.cell0 p0
  replace p1 := k10.cell0 p1
  replace t0 := k10.cell0 t0
  replace t1 := k10.cell0 t1
  replace q0 := k10.cell0 q0
  replace q1 := k10.cell0 q1
  replace K := hide ((unhide K).trans k10)
  have z11 := k10.size
  clear k10
  clear hHeld
  refine hK.out _ _ ?_ (fun hHeld => ?_)
  · exact ⟨p0, p1, t0, t1⟩
  clear hK KK
  try simp only [Act.put, List.getElem_toArray, List.getElem_cons_succ, List.getElem_cons_zero, List.setIfInBounds_toArray, List.set_cons_zero, List.set_cons_succ]
  obtain ⟨v6, hv6, hs6, hb6, R6⟩ := ansW_told (c := wokB s1 xs && wokB s2 ys) (by rw [unhide HO1, unhide HO2]; rfl) r3
  simp only [hv6, hs6]
  simp only [hb6]
  clear hv6 hs6 hb6
  obtain ⟨zz, hzz⟩ : ∃ zz, ansWL (wokB s1 xs && wokB s2 ys) X = zz := ⟨_, rfl⟩
  obtain ⟨ss, hss⟩ : ∃ ss, ansWS (wokB s1 xs && wokB s2 ys) X = ss := ⟨_, rfl⟩
  obtain ⟨bb, hbb⟩ : ∃ bb, ansWB (wokB s1 xs && wokB s2 ys) X = bb := ⟨_, rfl⟩
  rw [hzz] at R6
  simp only [hss, hbb]
  have HZ := hide hzz
  have HS := hide hss
  have HB := hide hbb
  clear hzz hss hbb
  obtain ⟨a6, c6, hv⟩ := Row.form' R6
  subst hv
  refine wpAnyH_take (i := 5) (oi := _) (v := .agg #[.bool ss, .slice a6 zz.length c6]) rfl (by kernel_rfl) (by kernel_rfl) (by kernel_rfl) (fun _ _ _ h => h) (Or.inl ⟨by rfl, ?_⟩) hHeld ?_
  · intro wq hSw
    try dsimp only at hSw
    go_simp
  try simp only [Act.put, List.getElem_toArray, List.getElem_cons_succ, List.getElem_cons_zero, List.setIfInBounds_toArray, List.set_cons_zero, List.set_cons_succ]
  refine wpAnyH_take (i := 6) (oi := _) (v := .bool bb) rfl (by kernel_rfl) (by kernel_rfl) (by kernel_rfl) (fun _ _ _ h => h) (Or.inl ⟨by rfl, ?_⟩) hHeld ?_
  · intro wq hSw
    try dsimp only at hSw
    go_simp
  try simp only [Act.put, List.getElem_toArray, List.getElem_cons_succ, List.getElem_cons_zero, List.setIfInBounds_toArray, List.set_cons_zero, List.set_cons_succ]
  refine wpAnyH_ready (rs := [7]) (by kernel_rfl) (by simp) ?_
  refine AllReadyH.cons rfl (fun KK hK => ?_) AllReadyH.nil
  simp only [List.getElem_toArray, List.getElem_cons_succ, List.getElem_cons_zero]
  rw [if_pos (by rfl)]
  go_simp
  clear hHeld
  refine hK.out _ _ ?_ (fun hHeld => ?_)
  · exact ⟨(cell_aside _ (by dsimp only; omega) (cell_aside _ (by dsimp only; omega) p0)), (cell_aside _ (by dsimp only; omega) (cell_aside _ (by dsimp only; omega) p1)), (cell_aside _ (by dsimp only; omega) (cell_aside _ (by dsimp only; omega) t0)), (cell_aside _ (by dsimp only; omega) (cell_aside _ (by dsimp only; omega) t1))⟩
  clear hK KK
  try simp only [Act.put, List.getElem_toArray, List.getElem_cons_succ, List.getElem_cons_zero, List.setIfInBounds_toArray, List.set_cons_zero, List.set_cons_succ]
  refine wpAnyH_take (i := 8) (oi := _) (v := .bool bb) rfl (by kernel_rfl) (by kernel_rfl) (by kernel_rfl) (fun _ _ _ h => h) (Or.inl ⟨by rfl, ?_⟩) hHeld ?_
  · intro wq hSw
    try dsimp only at hSw
    go_simp
  try simp only [Act.put, List.getElem_toArray, List.getElem_cons_succ, List.getElem_cons_zero, List.setIfInBounds_toArray, List.set_cons_zero, List.set_cons_succ]
  refine wpAnyH_done (by kernel_rfl) ?_ _
  clear hHeld
  clear mk mn
  have bX : w.heap.size + 2 < w10.heap.size := World.block_lt_of_cell? _ _ q0
  have R := hide (((R6.set_other (p := ⟨w.heap.size + 2, 0, none⟩) (.inl (by have := unhide S0; dsimp only; omega)) (.bool ss)).set_other (p := ⟨w.heap.size + 2, 1, none⟩) (.inl (by have := unhide S0; dsimp only; omega)) (.slice a6 zz.length c6)).tight.wider (lo' := w.heap.size) (by have := unhide S0; omega) (Nat.le_refl _))
  have K7 := hide (((unhide K).setNew (p := ⟨w.heap.size + 2, 0, none⟩) (by simp) (.bool ss)).setNew (p := ⟨w.heap.size + 2, 1, none⟩) (by simp) (.slice a6 zz.length c6))
  clear r1 r2 r5 r3 R6 K
  go_wp2_with fail
  exact bodyPost_ret (v := .tuple #[.agg #[.bool ss, .slice a6 zz.length c6], .bool bb]) (by simp [results, Try.results81, go_sem, q0, q1]) rfl ⟨_, by rw [unhide HX, unhide HB, unhide HS], by rw [unhide HX, unhide HZ]; exact unhide R, unhide K7⟩

/-- What WholeCmp tells. -/
def cmpW (s1 : Bool) (xs : List Int) (s2 : Bool) (ys : List Int) : Int := if wokB s1 xs = true ∧ wokB s2 ys = true then cmpI (wval s1 xs) (wval s2 ys) else 0
theorem cmpW_bad1 {s1 s2 : Bool} {xs ys : List Int} (h : wokB s1 xs = false) : cmpW s1 xs s2 ys = 0 := by unfold cmpW; rw [if_neg (fun e => by rw [h] at e; cases e.1)]
theorem cmpW_bad2 {s1 s2 : Bool} {xs ys : List Int} (h : wokB s2 ys = false) : cmpW s1 xs s2 ys = 0 := by unfold cmpW; rw [if_neg (fun e => by rw [h] at e; cases e.2)]
theorem cmpW_ok {s1 s2 : Bool} {xs ys : List Int} (h1 : wokB s1 xs = true) (h2 : wokB s2 ys = true) : cmpW s1 xs s2 ys = cmpI (wval s1 xs) (wval s2 ys) := by unfold cmpW; rw [if_pos ⟨h1, h2⟩]

set_option maxHeartbeats 1000000 in
theorem wCmp_spec {b1 b2 : Bool} {l1 h1 l2 h2 : Nat} {v1 v2 : Value} {xs ys : List Int} (s1 s2 : Bool) (w : World) (r1 : Row .i64 b1 l1 h1 w v1 xs) (r2 : Row .i64 b2 l2 h2 w v2 ys) :
    Calls Try.prog 78 #[.agg #[.bool s1, v1], .agg #[.bool s2, v2]] w fun e w' => e = .returned (.int .i64 (cmpW s1 xs s2 ys)) ∧ Kept 0 0 w w' := by
  have k0 : Kept 0 0 w ((w.alloc (.cells #[.bool s1, v1] 47)).alloc (.cells #[.bool s2, v2] 47)) := (((Kept.refl 0 0 w).alloc (.cells #[.bool s1, v1] 47)).alloc (.cells #[.bool s2, v2] 47))
  have p0 : ((w.alloc (.cells #[.bool s1, v1] 47)).alloc (.cells #[.bool s2, v2] 47)).cell? ⟨w.heap.size, 0, none⟩ = some (.bool s1) := old_cell _ (new_cell2 _ _ _ _ _ _ (by simp) rfl)
  have p1 : ((w.alloc (.cells #[.bool s1, v1] 47)).alloc (.cells #[.bool s2, v2] 47)).cell? ⟨w.heap.size, 1, none⟩ = some (v1) := old_cell _ (new_cell2 _ _ _ _ _ _ (by simp) rfl)
  have t0 : ((w.alloc (.cells #[.bool s1, v1] 47)).alloc (.cells #[.bool s2, v2] 47)).cell? ⟨w.heap.size + 1, 0, none⟩ = some (.bool s2) := new_cell2 _ _ _ _ _ _ (by simp) rfl
  have t1 : ((w.alloc (.cells #[.bool s1, v1] 47)).alloc (.cells #[.bool s2, v2] 47)).cell? ⟨w.heap.size + 1, 1, none⟩ = some (v2) := new_cell2 _ _ _ _ _ _ (by simp) rfl
  replace r1 := r1.kept k0 (by omega)
  replace r2 := r2.kept k0 (by omega)
  have s0 : ((w.alloc (.cells #[.bool s1, v1] 47)).alloc (.cells #[.bool s2, v2] 47)).heap.size = w.heap.size + 2 := by simp
  obtain ⟨a1, c1, hv⟩ := Row.form' r1
  subst hv
  obtain ⟨a2, c2, hv⟩ := Row.form' r2
  subst hv
  have K := hide (k0)
  clear k0
  have S0 := hide s0
  clear s0
  go_enter Try.func78, Try.ntmps78
  go_wp2_with fail
  generalize ((w.alloc (.cells #[.bool s1, .slice a1 xs.length c1] 47)).alloc (.cells #[.bool s2, .slice a2 ys.length c2] 47)) = W at *
  refine (wok_spec s1 _ r1).mono ?_
  rintro e w1 ⟨rfl, k1⟩
  replace r1 := r1.kept k1 (by omega)
  replace r2 := r2.kept k1 (by omega)
  replace p0 := k1.cell0 p0
  replace p1 := k1.cell0 p1
  replace t0 := k1.cell0 t0
  replace t1 := k1.cell0 t1
  replace K := hide ((unhide K).trans k1)
  have z2 := k1.size
  clear k1
  cases ho1 : wokB s1 xs
  · have HO := hide ho1
    clear ho1
    clear r1 r2
    go_wp2_with fail
    go_ret
    exact ⟨by rw [cmpW_bad1 (unhide HO)]; rfl, unhide K⟩
  have HO1 := hide ho1
  clear ho1
  go_wp2_with fail
  refine (wok_spec s2 _ r2).mono ?_
  rintro e w3 ⟨rfl, k3⟩
  replace r1 := r1.kept k3 (by omega)
  replace r2 := r2.kept k3 (by omega)
  replace p0 := k3.cell0 p0
  replace p1 := k3.cell0 p1
  replace t0 := k3.cell0 t0
  replace t1 := k3.cell0 t1
  replace K := hide ((unhide K).trans k3)
  have z4 := k3.size
  clear k3
  cases ho2 : wokB s2 ys
  · have HO := hide ho2
    clear ho2
    clear r1 r2
    go_wp2_with fail
    go_ret
    exact ⟨by rw [cmpW_bad2 (unhide HO)]; rfl, unhide K⟩
  have HO2 := hide ho2
  clear ho2
  go_wp2_with fail
  refine (cmp3_spec s1 s2 _ r1 r2 (unhide HO1) (unhide HO2)).mono ?_
  rintro e w5 ⟨rfl, k5⟩
  replace r1 := r1.kept k5 (by omega)
  replace r2 := r2.kept k5 (by omega)
  replace p0 := k5.cell0 p0
  replace p1 := k5.cell0 p1
  replace t0 := k5.cell0 t0
  replace t1 := k5.cell0 t1
  replace K := hide ((unhide K).trans k5)
  have z6 := k5.size
  clear k5
  clear r1 r2
  go_wp2_with fail
  go_ret
  exact ⟨by rw [cmpW_ok (unhide HO1) (unhide HO2)]; rfl, unhide K⟩

/-- What WholeNeg tells. -/
def negW (b : Bool) (zs : List Int) : Int := if wokB b zs = true then - wval b zs else 0
theorem negW_len (b : Bool) (zs : List Int) : (wlm (negW b zs)).length ≤ 100 := by
  unfold negW
  split
  · rename_i h
    obtain ⟨-, h2, h3, h4⟩ := wok_int h
    rw [show wlm (- wval b zs) = wlm (wval b zs) from by unfold wlm; simp]
    unfold wlm
    rw [← h2]; exact h3
  · simp [wlm, limbs_zero]

set_option maxHeartbeats 1000000 in
theorem wNeg_spec {bw : Bool} {lo hi : Nat} {v : Value} {zs : List Int} (b : Bool) (w : World) (r : Row .i64 bw lo hi w v zs) :
    Calls Try.prog 79 #[.agg #[.bool b, v]] w fun e w' => ∃ v', e = .returned (.agg #[.bool (wsg (negW b zs)), v']) ∧ Row .i64 true w.heap.size w'.heap.size w' v' (wlm (negW b zs)) ∧ Kept 0 0 w w' := by
  obtain ⟨X, hX⟩ : ∃ X : Int, X = negW b zs := ⟨_, rfl⟩
  rw [← hX]
  obtain ⟨zz, hzz⟩ : ∃ zz, zz = wlm X := ⟨_, rfl⟩
  obtain ⟨ss, hss⟩ : ∃ ss, ss = wsg X := ⟨_, rfl⟩
  rw [← hzz, ← hss]
  have HX := hide hX
  have HZ := hide hzz
  have HS := hide hss
  clear hX hzz hss
  have k0 : Kept 0 0 w ((w.alloc (.cells #[.bool b, v] 47)).alloc (.cells #[.bool false, .slice none 0 0] 47)) := (((Kept.refl 0 0 w).alloc (.cells #[.bool b, v] 47)).alloc (.cells #[.bool false, .slice none 0 0] 47))
  have p0 : ((w.alloc (.cells #[.bool b, v] 47)).alloc (.cells #[.bool false, .slice none 0 0] 47)).cell? ⟨w.heap.size, 0, none⟩ = some (.bool b) := old_cell _ (new_cell2 _ _ _ _ _ _ (by simp) rfl)
  have p1 : ((w.alloc (.cells #[.bool b, v] 47)).alloc (.cells #[.bool false, .slice none 0 0] 47)).cell? ⟨w.heap.size, 1, none⟩ = some (v) := old_cell _ (new_cell2 _ _ _ _ _ _ (by simp) rfl)
  have q0 : ((w.alloc (.cells #[.bool b, v] 47)).alloc (.cells #[.bool false, .slice none 0 0] 47)).cell? ⟨w.heap.size + 1, 0, none⟩ = some (.bool false) := new_cell2 _ _ _ _ _ _ (by simp) rfl
  have qf0 : ((w.alloc (.cells #[.bool b, v] 47)).alloc (.cells #[.bool false, .slice none 0 0] 47)).frozen? ⟨w.heap.size + 1, 0, none⟩ = false := new_loose2 _ _ _ _ _ (by simp)
  have q1 : ((w.alloc (.cells #[.bool b, v] 47)).alloc (.cells #[.bool false, .slice none 0 0] 47)).cell? ⟨w.heap.size + 1, 1, none⟩ = some (.slice none 0 0) := new_cell2 _ _ _ _ _ _ (by simp) rfl
  have qf1 : ((w.alloc (.cells #[.bool b, v] 47)).alloc (.cells #[.bool false, .slice none 0 0] 47)).frozen? ⟨w.heap.size + 1, 1, none⟩ = false := new_loose2 _ _ _ _ _ (by simp)
  replace r := r.kept k0 (by omega)
  have s0 : ((w.alloc (.cells #[.bool b, v] 47)).alloc (.cells #[.bool false, .slice none 0 0] 47)).heap.size = w.heap.size + 2 := by simp
  obtain ⟨a, c, hv⟩ := Row.form' r
  subst hv
  have K := hide (k0)
  clear k0
  have S0 := hide s0
  clear s0
  go_enter Try.func79, Try.ntmps79
  go_wp2_with fail
  generalize ((w.alloc (.cells #[.bool b, .slice a zs.length c] 47)).alloc (.cells #[.bool false, .slice none 0 0] 47)) = W at *
  refine (wok_spec b _ r).mono ?_
  rintro e w1 ⟨rfl, k1⟩
  replace r := r.kept k1 (by omega)
  replace qf0 := k1.loose0 (World.block_lt_of_cell? _ _ q0) qf0
  replace qf1 := k1.loose0 (World.block_lt_of_cell? _ _ q1) qf1
  replace p0 := k1.cell0 p0
  replace p1 := k1.cell0 p1
  replace q0 := k1.cell0 q0
  replace q1 := k1.cell0 q1
  replace K := hide ((unhide K).trans k1)
  have z2 := k1.size
  clear k1
  cases ho : wokB b zs
  · have hx0 : X = 0 := by rw [unhide HX]; unfold negW; rw [ho]; rfl
    have hz0 : zz = [] := by rw [unhide HZ, hx0]; rfl
    have hs0 : ss = false := by rw [unhide HS, hx0]; rfl
    have HZ0 := hide hz0
    have HS0 := hide hs0
    have K' := hide (((unhide K).setNew (p := ⟨w.heap.size + 1, 0, none⟩) (by simp) (.bool false)).setNew (p := ⟨w.heap.size + 1, 1, none⟩) (by simp) (.slice none 0 0))
    clear r K ho hx0 hz0 hs0
    go_wp2_with fail
    exact bodyPost_ret (v := .agg #[.bool false, .slice none 0 0]) (by simp [results, Try.results79, go_sem, q0, q1]) rfl ⟨_, by rw [unhide HS0], by rw [unhide HZ0]; exact Row.nil _ _ _ _ _, unhide K'⟩
  obtain ⟨-, -, lx, hn⟩ := wok_int ho
  have hX : - wval b zs = X := by rw [unhide HX]; unfold negW; rw [if_pos ho]
  clear ho
  go_wp2_with fail
  have mk := neg3_spec b w1 r hn (by omega)
  rw [hX, ← unhide HZ, ← unhide HS] at mk
  clear hX
  refine (mk).mono ?_
  rintro e w3 ⟨v3, rfl, r3, k3⟩
  replace r := r.kept k3 (by omega)
  replace qf0 := k3.loose0 (World.block_lt_of_cell? _ _ q0) qf0
  replace qf1 := k3.loose0 (World.block_lt_of_cell? _ _ q1) qf1
  replace p0 := k3.cell0 p0
  replace p1 := k3.cell0 p1
  replace q0 := k3.cell0 q0
  replace q1 := k3.cell0 q1
  replace K := hide ((unhide K).trans k3)
  have z4 := k3.size
  clear k3
  clear mk
  obtain ⟨a3, c3, hv⟩ := Row.form' r3
  subst hv
  have bX : w.heap.size + 1 < w3.heap.size := World.block_lt_of_cell? _ _ q0
  have R := hide (((r3.set_other (p := ⟨w.heap.size + 1, 0, none⟩) (.inl (by have := unhide S0; dsimp only; omega)) (.bool ss)).set_other (p := ⟨w.heap.size + 1, 1, none⟩) (.inl (by have := unhide S0; dsimp only; omega)) (.slice a3 zz.length c3)).tight.wider (lo' := w.heap.size) (by have := unhide S0; omega) (Nat.le_refl _))
  have K7 := hide (((unhide K).setNew (p := ⟨w.heap.size + 1, 0, none⟩) (by simp) (.bool ss)).setNew (p := ⟨w.heap.size + 1, 1, none⟩) (by simp) (.slice a3 zz.length c3))
  clear r r3 K
  go_wp2_with fail
  exact bodyPost_ret (v := .agg #[.bool ss, .slice a3 zz.length c3]) (by simp [results, Try.results79, go_sem, q0, q1]) rfl ⟨_, rfl, unhide R, unhide K7⟩

set_option maxHeartbeats 1000000 in
theorem wOf_spec (n : Int) (hn1 : n ≤ 9223372036854775807) (hn0 : -9223372036854775808 ≤ n) (w : World) :
    Calls Try.prog 75 #[.int .i64 n] w fun e w' => ∃ v', e = .returned (.agg #[.bool (wsg n), v']) ∧ Row .i64 true w.heap.size w'.heap.size w' v' (wlm n) ∧ Kept 0 0 w w' := by
  obtain ⟨zz, hzz⟩ : ∃ zz, zz = wlm n := ⟨_, rfl⟩
  obtain ⟨ss, hss⟩ : ∃ ss, ss = wsg n := ⟨_, rfl⟩
  rw [← hzz, ← hss]
  have HZ := hide hzz
  have HS := hide hss
  clear hzz hss
  have k0 : Kept 0 0 w (w.alloc (.cells #[.bool false, .slice none 0 0] 47)) := ((Kept.refl 0 0 w).alloc (.cells #[.bool false, .slice none 0 0] 47))
  have q0 : (w.alloc (.cells #[.bool false, .slice none 0 0] 47)).cell? ⟨w.heap.size, 0, none⟩ = some (.bool false) := new_cell2 _ _ _ _ _ _ (by simp) rfl
  have qf0 : (w.alloc (.cells #[.bool false, .slice none 0 0] 47)).frozen? ⟨w.heap.size, 0, none⟩ = false := new_loose2 _ _ _ _ _ (by simp)
  have q1 : (w.alloc (.cells #[.bool false, .slice none 0 0] 47)).cell? ⟨w.heap.size, 1, none⟩ = some (.slice none 0 0) := new_cell2 _ _ _ _ _ _ (by simp) rfl
  have qf1 : (w.alloc (.cells #[.bool false, .slice none 0 0] 47)).frozen? ⟨w.heap.size, 1, none⟩ = false := new_loose2 _ _ _ _ _ (by simp)
  have s0 : (w.alloc (.cells #[.bool false, .slice none 0 0] 47)).heap.size = w.heap.size + 1 := by simp
  have K := hide (k0)
  clear k0
  have S0 := hide s0
  clear s0
  go_enter Try.func75, Try.ntmps75
  go_wp2_with fail
  generalize (w.alloc (.cells #[.bool false, .slice none 0 0] 47)) = W at *
  have mk := of3_spec n hn1 hn0 W
  rw [← unhide HZ, ← unhide HS] at mk
  refine (mk).mono ?_
  rintro e w1 ⟨v3, rfl, r3, k1⟩
  replace qf0 := k1.loose0 (World.block_lt_of_cell? _ _ q0) qf0
  replace qf1 := k1.loose0 (World.block_lt_of_cell? _ _ q1) qf1
  replace q0 := k1.cell0 q0
  replace q1 := k1.cell0 q1
  replace K := hide ((unhide K).trans k1)
  have z2 := k1.size
  clear k1
  clear mk
  obtain ⟨a3, c3, hv⟩ := Row.form' r3
  subst hv
  have bX : w.heap.size < w1.heap.size := World.block_lt_of_cell? _ _ q0
  have R := hide (((r3.set_other (p := ⟨w.heap.size, 0, none⟩) (.inl (by have := unhide S0; dsimp only; omega)) (.bool ss)).set_other (p := ⟨w.heap.size, 1, none⟩) (.inl (by have := unhide S0; dsimp only; omega)) (.slice a3 zz.length c3)).tight.wider (lo' := w.heap.size) (by have := unhide S0; omega) (Nat.le_refl _))
  have K7 := hide (((unhide K).setNew (p := ⟨w.heap.size, 0, none⟩) (by simp) (.bool ss)).setNew (p := ⟨w.heap.size, 1, none⟩) (by simp) (.slice a3 zz.length c3))
  clear r3 K
  go_wp2_with fail
  exact bodyPost_ret (v := .agg #[.bool ss, .slice a3 zz.length c3]) (by simp [results, Try.results75, go_sem, q0, q1]) rfl ⟨_, rfl, unhide R, unhide K7⟩

end Go.Proofs.Ytdhponfpikclhaa
