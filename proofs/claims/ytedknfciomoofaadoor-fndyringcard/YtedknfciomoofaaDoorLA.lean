/-
  Contracts that the proofs of this seat share: Dy8, Dy9, DrawD, DrawD2.
-/
import Derived.Test.YtedknfciomoofaaDoorDy7
import Derived.Test.YtedknfciomoofaaDoorBL
namespace Go.Proofs.YtedknfciomoofaaDoor
open Go.RowKit
set_option linter.unusedVariables false
set_option maxRecDepth 8000
set_option linter.unusedSimpArgs false

theorem d_ok {s : Bool} {zs : List Int} {x : Int} (h : dokB s zs x = true) (m : Int) (hm : m.natAbs = (val zs).toNat) : ansDB true m x = true ∧ ansDS true m x = wsg m ∧ ansDL true m x = zs ∧ ansDE true m x = x := by
  obtain ⟨e1, e2⟩ := d_form h m hm
  obtain ⟨h1, h2, h3, -, -⟩ := dok_parts h
  obtain ⟨-, -, hl, -⟩ := wok_int h1
  have hb : ansDB true m x = true := by
    unfold ansDB
    rw [dok_told, e1, e2, decide_eq_true hl, decide_eq_true h2, decide_eq_true h3]
    rfl
  obtain ⟨b1, b2, b3⟩ := ansD_yes hb
  exact ⟨hb, b1, by rw [b2, e1], by rw [b3, e2]⟩
theorem wval_not (s : Bool) (zs : List Int) : wval (!s) zs = -wval s zs := by unfold wval; cases s <;> simp
/-- May it be shifted so far? -/
def l4eB (k : Int) : Bool := decide (-12000 ≤ k) && decide (k ≤ 12000)

set_option maxHeartbeats 2000000 in
theorem e4_spec (x : Int) (w : World) :
    Calls Tryd.prog 47 #[.int .i64 x] w fun e w' => e = .returned (.bool (l4eB x)) ∧ w' = w := by
  have HB : Hid (l4eB x = (decide (-12000 ≤ x) && decide (x ≤ 12000))) := rfl
  generalize l4eB x = Q at *
  go_enter Tryd.func47, Tryd.ntmps47
  by_cases h1 : -12000 ≤ x
  rotate_left
  · have hd : decide (-12000 ≤ x) = false := decide_eq_false h1
    go_wp2_with fail
    go_ret
    exact ⟨by rw [unhide HB, hd]; rfl, rfl⟩
  have hd : decide (-12000 ≤ x) = true := decide_eq_true h1
  go_wp2_with fail
  go_ret
  exact ⟨by rw [unhide HB, hd]; rfl, rfl⟩

set_option maxHeartbeats 2000000 in
theorem mayShift_impl (x : Int) (w : World) :
    Calls Tryd.prog 25 #[.int .i64 x] w fun e w' => e = .returned (.bool (l4eB x)) ∧ w' = w := by
  have HB : Hid (l4eB x = (decide (-12000 ≤ x) && decide (x ≤ 12000))) := rfl
  generalize l4eB x = Q at *
  go_enter Tryd.func25, Tryd.ntmps25
  by_cases h1 : -12000 ≤ x
  rotate_left
  · have hd : decide (-12000 ≤ x) = false := decide_eq_false h1
    go_wp2_with fail
    go_ret
    exact ⟨by rw [unhide HB, hd]; rfl, rfl⟩
  have hd : decide (-12000 ≤ x) = true := decide_eq_true h1
  go_wp2_with fail
  go_ret
  exact ⟨by rw [unhide HB, hd]; rfl, rfl⟩

end Go.Proofs.YtedknfciomoofaaDoor

namespace Go.Proofs.YtedknfciomoofaaDoor
open Go.RowKit
set_option linter.unusedVariables false
set_option maxRecDepth 8000
set_option linter.unusedSimpArgs false

theorem fits_ans {c : Bool} (hc : c = true) (m x : Int) : (dokB (wsg m) (dlm m) (dex m x) && wsg m) = ansDS c m x ∧ (if dokB (wsg m) (dlm m) (dex m x) = true then dex m x else 0) = ansDE c m x ∧ dokB (wsg m) (dlm m) (dex m x) = ansDB c m x ∧ (if dokB (wsg m) (dlm m) (dex m x) = true then dlm m else []) = ansDL c m x := by
  subst hc; exact ⟨rfl, rfl, rfl, rfl⟩
theorem dex_range (m x : Int) (h1 : x ≤ 1000000) (h0 : -1000000 ≤ x) {K : Nat} (hm : m.natAbs < 2 ^ K) (hK : K ≤ 800000) : dex m x ≤ 9223372036854775807 ∧ -9223372036854775808 ≤ dex m x := by
  unfold dex
  split
  · omega
  · rename_i h
    have := tz_lt (n := m.natAbs) (by omega) hm
    omega
theorem wval_lt {s : Bool} {zs : List Int} (h : Lim zs) : (wval s zs).natAbs < 2 ^ (16 * zs.length) := by
  rw [wval_abs h]
  have h1 := val_lt h
  have h2 := val_nonneg h
  rw [pow_limb] at h1
  omega
set_option maxHeartbeats 4000000 in
theorem dof_spec {bw : Bool} {lo hi : Nat} {v : Value} {zs : List Int} (s : Bool) (x : Int) (w : World) (r : Row .i64 bw lo hi w v zs) :
    Calls Tryd.prog 28 #[.agg #[.bool s, v], .int .i64 x] w fun e w' => ∃ v', e = .returned (.tuple #[.agg #[.bool (ansDS (wokB s zs && l4eB x) (wval s zs) (x)), v', .int .i64 (ansDE (wokB s zs && l4eB x) (wval s zs) (x))], .bool (ansDB (wokB s zs && l4eB x) (wval s zs) (x))]) ∧ Row .i64 true w.heap.size w'.heap.size w' v' (ansDL (wokB s zs && l4eB x) (wval s zs) (x)) ∧ Kept 0 0 w w' := by
  obtain ⟨GS, hGS⟩ : ∃ y, ansDS (wokB s zs && l4eB x) (wval s zs) (x) = y := ⟨_, rfl⟩
  obtain ⟨GL, hGL⟩ : ∃ y, ansDL (wokB s zs && l4eB x) (wval s zs) (x) = y := ⟨_, rfl⟩
  obtain ⟨GE, hGE⟩ : ∃ y, ansDE (wokB s zs && l4eB x) (wval s zs) (x) = y := ⟨_, rfl⟩
  obtain ⟨GB, hGB⟩ : ∃ y, ansDB (wokB s zs && l4eB x) (wval s zs) (x) = y := ⟨_, rfl⟩
  try rw [hGS]
  try rw [hGL]
  try rw [hGE]
  try rw [hGB]
  have HGS := hide hGS
  have HGL := hide hGL
  have HGE := hide hGE
  have HGB := hide hGB
  clear hGS hGL hGE hGB
  have k0 : Kept 0 0 w ((w.alloc (.cells #[.bool s, v] 28)).alloc (.cells #[.bool false, .slice none 0 0, .int .i64 0] 30)) := (((Kept.refl 0 0 w).alloc (.cells #[.bool s, v] 28)).alloc (.cells #[.bool false, .slice none 0 0, .int .i64 0] 30))
  have p0 : ((w.alloc (.cells #[.bool s, v] 28)).alloc (.cells #[.bool false, .slice none 0 0, .int .i64 0] 30)).cell? ⟨w.heap.size, 0, none⟩ = some (.bool s) := old_cell _ (new_cell2 _ _ _ _ _ _ (by simp) rfl)
  have p1 : ((w.alloc (.cells #[.bool s, v] 28)).alloc (.cells #[.bool false, .slice none 0 0, .int .i64 0] 30)).cell? ⟨w.heap.size, 1, none⟩ = some (v) := old_cell _ (new_cell2 _ _ _ _ _ _ (by simp) rfl)
  have q0 : ((w.alloc (.cells #[.bool s, v] 28)).alloc (.cells #[.bool false, .slice none 0 0, .int .i64 0] 30)).cell? ⟨w.heap.size + 1, 0, none⟩ = some (.bool false) := new_cell2 _ _ _ _ _ _ (by simp) rfl
  have qf0 : ((w.alloc (.cells #[.bool s, v] 28)).alloc (.cells #[.bool false, .slice none 0 0, .int .i64 0] 30)).frozen? ⟨w.heap.size + 1, 0, none⟩ = false := new_loose2 _ _ _ _ _ (by simp)
  have q1 : ((w.alloc (.cells #[.bool s, v] 28)).alloc (.cells #[.bool false, .slice none 0 0, .int .i64 0] 30)).cell? ⟨w.heap.size + 1, 1, none⟩ = some (.slice none 0 0) := new_cell2 _ _ _ _ _ _ (by simp) rfl
  have qf1 : ((w.alloc (.cells #[.bool s, v] 28)).alloc (.cells #[.bool false, .slice none 0 0, .int .i64 0] 30)).frozen? ⟨w.heap.size + 1, 1, none⟩ = false := new_loose2 _ _ _ _ _ (by simp)
  have q2 : ((w.alloc (.cells #[.bool s, v] 28)).alloc (.cells #[.bool false, .slice none 0 0, .int .i64 0] 30)).cell? ⟨w.heap.size + 1, 2, none⟩ = some (.int .i64 0) := new_cell2 _ _ _ _ _ _ (by simp) rfl
  have qf2 : ((w.alloc (.cells #[.bool s, v] 28)).alloc (.cells #[.bool false, .slice none 0 0, .int .i64 0] 30)).frozen? ⟨w.heap.size + 1, 2, none⟩ = false := new_loose2 _ _ _ _ _ (by simp)
  replace r := r.kept k0 (by omega)
  have s0 : ((w.alloc (.cells #[.bool s, v] 28)).alloc (.cells #[.bool false, .slice none 0 0, .int .i64 0] 30)).heap.size = w.heap.size + 2 := by simp
  obtain ⟨a, c, hv⟩ := Row.form' r
  subst hv
  have K := hide (k0)
  clear k0
  have S0 := hide s0
  clear s0
  go_enter Tryd.func28, Tryd.ntmps28
  go_wp2_with fail
  generalize ((w.alloc (.cells #[.bool s, .slice a zs.length c] 28)).alloc (.cells #[.bool false, .slice none 0 0, .int .i64 0] 30)) = W at *
  refine (wok_spec s _ r).mono ?_
  rintro e w1 ⟨rfl, k1⟩
  replace r := r.kept k1 (by omega)
  replace qf0 := k1.loose0 (World.block_lt_of_cell? _ _ q0) qf0
  replace qf1 := k1.loose0 (World.block_lt_of_cell? _ _ q1) qf1
  replace qf2 := k1.loose0 (World.block_lt_of_cell? _ _ q2) qf2
  replace p0 := k1.cell0 p0
  replace p1 := k1.cell0 p1
  replace q0 := k1.cell0 q0
  replace q1 := k1.cell0 q1
  replace q2 := k1.cell0 q2
  replace K := hide ((unhide K).trans k1)
  have z2 := k1.size
  clear k1
  cases ho : wokB s zs
  · have HO := hide ho
    clear ho
    have HF : Hid (GS = false ∧ GL = [] ∧ GE = 0 ∧ GB = false) := by
      have hno : GB = false := by rw [← unhide HGB]; exact ansDB_no (by rw [unhide HO]; rfl)
      have hno' := hno
      rw [← unhide HGB] at hno'
      obtain ⟨b1, b2, b3⟩ := ansD_no hno'
      exact ⟨by rw [← unhide HGS, b1], by rw [← unhide HGL, b2], by rw [← unhide HGE, b3], hno⟩
    have KF := hide ((((unhide K).setNew (p := ⟨w.heap.size + 1, 0, none⟩) (by simp) (.bool false)).setNew (p := ⟨w.heap.size + 1, 1, none⟩) (by simp) (.slice none 0 0)).setNew (p := ⟨w.heap.size + 1, 2, none⟩) (by simp) (.int .i64 0))
    clear r K
    go_wp2_with fail
    exact bodyPost_ret (v := .tuple #[.agg #[.bool false, .slice none 0 0, .int .i64 0], .bool false]) (by simp [results, Tryd.results28, go_sem, q0, q1, q2]) rfl ⟨_, by rw [(unhide HF).1, (unhide HF).2.2.1, (unhide HF).2.2.2], by rw [(unhide HF).2.1]; exact Row.nil _ _ _ _ _, unhide KF⟩
  have HO := hide ho
  clear ho
  go_wp2_with fail
  refine (e4_spec x _).mono ?_
  rintro e w5 ⟨rfl, rfl⟩
  cases hk : l4eB x
  · have HK := hide hk
    clear hk
    have HF : Hid (GS = false ∧ GL = [] ∧ GE = 0 ∧ GB = false) := by
      have hno : GB = false := by rw [← unhide HGB]; exact ansDB_no (by rw [unhide HO, unhide HK]; rfl)
      have hno' := hno
      rw [← unhide HGB] at hno'
      obtain ⟨b1, b2, b3⟩ := ansD_no hno'
      exact ⟨by rw [← unhide HGS, b1], by rw [← unhide HGL, b2], by rw [← unhide HGE, b3], hno⟩
    have KF := hide ((((unhide K).setNew (p := ⟨w.heap.size + 1, 0, none⟩) (by simp) (.bool false)).setNew (p := ⟨w.heap.size + 1, 1, none⟩) (by simp) (.slice none 0 0)).setNew (p := ⟨w.heap.size + 1, 2, none⟩) (by simp) (.int .i64 0))
    clear r K
    go_wp2_with fail
    exact bodyPost_ret (v := .tuple #[.agg #[.bool false, .slice none 0 0, .int .i64 0], .bool false]) (by simp [results, Tryd.results28, go_sem, q0, q1, q2]) rfl ⟨_, by rw [(unhide HF).1, (unhide HF).2.2.1, (unhide HF).2.2.2], by rw [(unhide HF).2.1]; exact Row.nil _ _ _ _ _, unhide KF⟩
  have HC : Hid ((wokB s zs && l4eB x) = true) := by show _ = _; rw [unhide HO, hk]; rfl
  have wn := wok_wn (unhide HO)
  obtain ⟨-, -, hl, hn⟩ := wok_int (unhide HO)
  have hx2 : -12000 ≤ x ∧ x ≤ 12000 := by unfold l4eB at hk; simpa using hk
  clear hk
  go_wp2_with fail
  refine (make4_spec s x (wval s zs) rfl (by omega) (by omega) _ r wn (by omega)).mono ?_
  rintro e w3 ⟨v6, rfl, r6, k3⟩
  replace r := r.kept k3 (by omega)
  replace qf0 := k3.loose0 (World.block_lt_of_cell? _ _ q0) qf0
  replace qf1 := k3.loose0 (World.block_lt_of_cell? _ _ q1) qf1
  replace qf2 := k3.loose0 (World.block_lt_of_cell? _ _ q2) qf2
  replace p0 := k3.cell0 p0
  replace p1 := k3.cell0 p1
  replace q0 := k3.cell0 q0
  replace q1 := k3.cell0 q1
  replace q2 := k3.cell0 q2
  replace K := hide ((unhide K).trans k3)
  have z4 := k3.size
  clear k3
  have rg := dex_range (wval s zs) x (by omega) (by omega) (wval_lt hn.1) (by omega)
  go_wp2_with fail
  obtain ⟨y1, y2, y3, y4⟩ := fits_ans (unhide HC) (wval s zs) (x)
  have mk := fits4_spec (wsg (wval s zs)) (dex (wval s zs) (x)) rg.1 rg.2 w3 r6
  rw [y4, y1, y2, y3, unhide HGS, unhide HGL, unhide HGE, unhide HGB] at mk
  clear y1 y2 y3 y4
  refine (mk).mono ?_
  rintro e w5 ⟨v8, rfl, r8, k5⟩
  replace r := r.kept k5 (by omega)
  replace r6 := r6.kept k5 (by omega)
  replace qf0 := k5.loose0 (World.block_lt_of_cell? _ _ q0) qf0
  replace qf1 := k5.loose0 (World.block_lt_of_cell? _ _ q1) qf1
  replace qf2 := k5.loose0 (World.block_lt_of_cell? _ _ q2) qf2
  replace p0 := k5.cell0 p0
  replace p1 := k5.cell0 p1
  replace q0 := k5.cell0 q0
  replace q1 := k5.cell0 q1
  replace q2 := k5.cell0 q2
  replace K := hide ((unhide K).trans k5)
  have z6 := k5.size
  clear k5
  clear mk
  obtain ⟨a8, c8, hv⟩ := Row.form' r8
  subst hv
  have R := hide ((((r8.set_other (p := ⟨w.heap.size + 1, 0, none⟩) (.inl (by have := unhide S0; dsimp only; omega)) (.bool GS)).set_other (p := ⟨w.heap.size + 1, 1, none⟩) (.inl (by have := unhide S0; dsimp only; omega)) (.slice a8 GL.length c8)).set_other (p := ⟨w.heap.size + 1, 2, none⟩) (.inl (by have := unhide S0; dsimp only; omega)) (.int .i64 GE)).tight.wider (lo' := w.heap.size) (by have := unhide S0; omega) (Nat.le_refl _))
  have K7 := hide ((((unhide K).setNew (p := ⟨w.heap.size + 1, 0, none⟩) (by simp) (.bool GS)).setNew (p := ⟨w.heap.size + 1, 1, none⟩) (by simp) (.slice a8 GL.length c8)).setNew (p := ⟨w.heap.size + 1, 2, none⟩) (by simp) (.int .i64 GE))
  clear r r6 r8 K 
  go_wp2_with fail
  exact bodyPost_ret (v := .tuple #[.agg #[.bool GS, .slice a8 GL.length c8, .int .i64 GE], .bool GB]) (by simp [results, Tryd.results28, go_sem, q0, q1, q2]) rfl ⟨_, rfl, unhide R, unhide K7⟩

set_option maxHeartbeats 4000000 in
theorem dof_impl {bw : Bool} {lo hi : Nat} {v : Value} {zs : List Int} (s : Bool) (x : Int) (w : World) (r : Row .i64 bw lo hi w v zs) (T : TabB w) :
    Calls Tryd.prog 11 #[.agg #[.bool s, v], .int .i64 x] w fun e w' => ∃ v', e = .returned (.tuple #[.agg #[.bool (ansDS (wokB s zs && l4eB x) (wval s zs) (x)), v', .int .i64 (ansDE (wokB s zs && l4eB x) (wval s zs) (x))], .bool (ansDB (wokB s zs && l4eB x) (wval s zs) (x))]) ∧ Row .i64 true w.heap.size w'.heap.size w' v' (ansDL (wokB s zs && l4eB x) (wval s zs) (x)) ∧ Kept 0 0 w w' := by
  obtain ⟨GS, hGS⟩ : ∃ y, ansDS (wokB s zs && l4eB x) (wval s zs) (x) = y := ⟨_, rfl⟩
  obtain ⟨GL, hGL⟩ : ∃ y, ansDL (wokB s zs && l4eB x) (wval s zs) (x) = y := ⟨_, rfl⟩
  obtain ⟨GE, hGE⟩ : ∃ y, ansDE (wokB s zs && l4eB x) (wval s zs) (x) = y := ⟨_, rfl⟩
  obtain ⟨GB, hGB⟩ : ∃ y, ansDB (wokB s zs && l4eB x) (wval s zs) (x) = y := ⟨_, rfl⟩
  try rw [hGS]
  try rw [hGL]
  try rw [hGE]
  try rw [hGB]
  have HGS := hide hGS
  have HGL := hide hGL
  have HGE := hide hGE
  have HGB := hide hGB
  clear hGS hGL hGE hGB
  have k0 : Kept 0 0 w ((w.alloc (.cells #[.bool s, v] 28)).alloc (.cells #[.bool false, .slice none 0 0, .int .i64 0] 30)) := (((Kept.refl 0 0 w).alloc (.cells #[.bool s, v] 28)).alloc (.cells #[.bool false, .slice none 0 0, .int .i64 0] 30))
  have p0 : ((w.alloc (.cells #[.bool s, v] 28)).alloc (.cells #[.bool false, .slice none 0 0, .int .i64 0] 30)).cell? ⟨w.heap.size, 0, none⟩ = some (.bool s) := old_cell _ (new_cell2 _ _ _ _ _ _ (by simp) rfl)
  have p1 : ((w.alloc (.cells #[.bool s, v] 28)).alloc (.cells #[.bool false, .slice none 0 0, .int .i64 0] 30)).cell? ⟨w.heap.size, 1, none⟩ = some (v) := old_cell _ (new_cell2 _ _ _ _ _ _ (by simp) rfl)
  have q0 : ((w.alloc (.cells #[.bool s, v] 28)).alloc (.cells #[.bool false, .slice none 0 0, .int .i64 0] 30)).cell? ⟨w.heap.size + 1, 0, none⟩ = some (.bool false) := new_cell2 _ _ _ _ _ _ (by simp) rfl
  have qf0 : ((w.alloc (.cells #[.bool s, v] 28)).alloc (.cells #[.bool false, .slice none 0 0, .int .i64 0] 30)).frozen? ⟨w.heap.size + 1, 0, none⟩ = false := new_loose2 _ _ _ _ _ (by simp)
  have q1 : ((w.alloc (.cells #[.bool s, v] 28)).alloc (.cells #[.bool false, .slice none 0 0, .int .i64 0] 30)).cell? ⟨w.heap.size + 1, 1, none⟩ = some (.slice none 0 0) := new_cell2 _ _ _ _ _ _ (by simp) rfl
  have qf1 : ((w.alloc (.cells #[.bool s, v] 28)).alloc (.cells #[.bool false, .slice none 0 0, .int .i64 0] 30)).frozen? ⟨w.heap.size + 1, 1, none⟩ = false := new_loose2 _ _ _ _ _ (by simp)
  have q2 : ((w.alloc (.cells #[.bool s, v] 28)).alloc (.cells #[.bool false, .slice none 0 0, .int .i64 0] 30)).cell? ⟨w.heap.size + 1, 2, none⟩ = some (.int .i64 0) := new_cell2 _ _ _ _ _ _ (by simp) rfl
  have qf2 : ((w.alloc (.cells #[.bool s, v] 28)).alloc (.cells #[.bool false, .slice none 0 0, .int .i64 0] 30)).frozen? ⟨w.heap.size + 1, 2, none⟩ = false := new_loose2 _ _ _ _ _ (by simp)
  replace r := r.kept k0 (by omega)
  have s0 : ((w.alloc (.cells #[.bool s, v] 28)).alloc (.cells #[.bool false, .slice none 0 0, .int .i64 0] 30)).heap.size = w.heap.size + 2 := by simp
  obtain ⟨a, c, hv⟩ := Row.form' r
  subst hv
  have K := hide (k0)
  clear k0
  have S0 := hide s0
  clear s0
  go_enter Tryd.func11, Tryd.ntmps11
  go_wp2_with fail
  generalize ((w.alloc (.cells #[.bool s, .slice a zs.length c] 28)).alloc (.cells #[.bool false, .slice none 0 0, .int .i64 0] 30)) = W at *
  refine (wok_impl s _ r).mono ?_
  rintro e w1 ⟨rfl, k1⟩
  replace r := r.kept k1 (by omega)
  replace qf0 := k1.loose0 (World.block_lt_of_cell? _ _ q0) qf0
  replace qf1 := k1.loose0 (World.block_lt_of_cell? _ _ q1) qf1
  replace qf2 := k1.loose0 (World.block_lt_of_cell? _ _ q2) qf2
  replace p0 := k1.cell0 p0
  replace p1 := k1.cell0 p1
  replace q0 := k1.cell0 q0
  replace q1 := k1.cell0 q1
  replace q2 := k1.cell0 q2
  replace K := hide ((unhide K).trans k1)
  have z2 := k1.size
  clear k1
  cases ho : wokB s zs
  · have HO := hide ho
    clear ho
    have HF : Hid (GS = false ∧ GL = [] ∧ GE = 0 ∧ GB = false) := by
      have hno : GB = false := by rw [← unhide HGB]; exact ansDB_no (by rw [unhide HO]; rfl)
      have hno' := hno
      rw [← unhide HGB] at hno'
      obtain ⟨b1, b2, b3⟩ := ansD_no hno'
      exact ⟨by rw [← unhide HGS, b1], by rw [← unhide HGL, b2], by rw [← unhide HGE, b3], hno⟩
    have KF := hide ((((unhide K).setNew (p := ⟨w.heap.size + 1, 0, none⟩) (by simp) (.bool false)).setNew (p := ⟨w.heap.size + 1, 1, none⟩) (by simp) (.slice none 0 0)).setNew (p := ⟨w.heap.size + 1, 2, none⟩) (by simp) (.int .i64 0))
    clear r K
    go_wp2_with fail
    exact bodyPost_ret (v := .tuple #[.agg #[.bool false, .slice none 0 0, .int .i64 0], .bool false]) (by simp [results, Tryd.results11, go_sem, q0, q1, q2]) rfl ⟨_, by rw [(unhide HF).1, (unhide HF).2.2.1, (unhide HF).2.2.2], by rw [(unhide HF).2.1]; exact Row.nil _ _ _ _ _, unhide KF⟩
  have HO := hide ho
  clear ho
  go_wp2_with fail
  refine (mayShift_impl x _).mono ?_
  rintro e w5 ⟨rfl, rfl⟩
  cases hk : l4eB x
  · have HK := hide hk
    clear hk
    have HF : Hid (GS = false ∧ GL = [] ∧ GE = 0 ∧ GB = false) := by
      have hno : GB = false := by rw [← unhide HGB]; exact ansDB_no (by rw [unhide HO, unhide HK]; rfl)
      have hno' := hno
      rw [← unhide HGB] at hno'
      obtain ⟨b1, b2, b3⟩ := ansD_no hno'
      exact ⟨by rw [← unhide HGS, b1], by rw [← unhide HGL, b2], by rw [← unhide HGE, b3], hno⟩
    have KF := hide ((((unhide K).setNew (p := ⟨w.heap.size + 1, 0, none⟩) (by simp) (.bool false)).setNew (p := ⟨w.heap.size + 1, 1, none⟩) (by simp) (.slice none 0 0)).setNew (p := ⟨w.heap.size + 1, 2, none⟩) (by simp) (.int .i64 0))
    clear r K
    go_wp2_with fail
    exact bodyPost_ret (v := .tuple #[.agg #[.bool false, .slice none 0 0, .int .i64 0], .bool false]) (by simp [results, Tryd.results11, go_sem, q0, q1, q2]) rfl ⟨_, by rw [(unhide HF).1, (unhide HF).2.2.1, (unhide HF).2.2.2], by rw [(unhide HF).2.1]; exact Row.nil _ _ _ _ _, unhide KF⟩
  have HC : Hid ((wokB s zs && l4eB x) = true) := by show _ = _; rw [unhide HO, hk]; rfl
  have wn := wok_wn (unhide HO)
  obtain ⟨-, -, hl, hn⟩ := wok_int (unhide HO)
  have hx2 : -12000 ≤ x ∧ x ≤ 12000 := by unfold l4eB at hk; simpa using hk
  clear hk
  go_wp2_with fail
  refine (signedOf_impl s _ r (by omega)).mono ?_
  rintro e w3 ⟨v3, rfl, o3, k3⟩
  replace r := r.kept k3 (by omega)
  replace qf0 := k3.loose0 (World.block_lt_of_cell? _ _ q0) qf0
  replace qf1 := k3.loose0 (World.block_lt_of_cell? _ _ q1) qf1
  replace qf2 := k3.loose0 (World.block_lt_of_cell? _ _ q2) qf2
  replace p0 := k3.cell0 p0
  replace p1 := k3.cell0 p1
  replace q0 := k3.cell0 q0
  replace q1 := k3.cell0 q1
  replace q2 := k3.cell0 q2
  replace K := hide ((unhide K).trans k3)
  have z4 := k3.size
  clear k3
  clear r
  have l3 := o3.lt
  obtain ⟨nd, dd, ee⟩ := new_dya s x 47 o3
  have kn := (Kept.refl 0 0 w3).alloc (.cells #[v3, .bool s, .int .i64 x] 47)
  obtain ⟨a3, c3, hv⟩ := own_slice o3
  subst hv
  replace qf0 := kn.loose0 (World.block_lt_of_cell? _ _ q0) qf0
  replace qf1 := kn.loose0 (World.block_lt_of_cell? _ _ q1) qf1
  replace qf2 := kn.loose0 (World.block_lt_of_cell? _ _ q2) qf2
  replace p0 := kn.cell0 p0
  replace p1 := kn.cell0 p1
  replace q0 := kn.cell0 q0
  replace q1 := kn.cell0 q1
  replace q2 := kn.cell0 q2
  replace K := hide ((unhide K).trans kn)
  have z5 := kn.size
  clear kn o3
  skip
  go_wp2_with fail
  generalize w3.alloc (.cells #[.slice a3 zs.length c3, .bool s, .int .i64 x] 47) = W9 at *
  refine (toldDyadic_impl (wval s zs) rfl _ nd dd ee hn (by omega) (by omega) (by omega) (T.kept (unhide K))).mono ?_
  rintro e w6 ⟨v7, rfl, r7, m7⟩
  have hS : ∀ i, Own1 w3.heap.size (.slice a3 zs.length c3) i → w.heap.size + 2 ≤ i := fun i e => e.elim (fun e => by have := unhide S0; omega) (fun e => by have := (l3 _ e).1; have := unhide S0; omega)
  have nS : ¬ Own1 w3.heap.size (.slice a3 zs.length c3) (w.heap.size + 1) := fun e => by have := hS _ e; omega
  replace qf0 := m7.loose (a := ⟨w.heap.size + 1, 0, none⟩) nS (World.block_lt_of_cell? _ _ q0) qf0
  replace qf1 := m7.loose (a := ⟨w.heap.size + 1, 1, none⟩) nS (World.block_lt_of_cell? _ _ q1) qf1
  replace qf2 := m7.loose (a := ⟨w.heap.size + 1, 2, none⟩) nS (World.block_lt_of_cell? _ _ q2) qf2
  replace q0 := m7.cell (a := ⟨w.heap.size + 1, 0, none⟩) nS q0
  replace q1 := m7.cell (a := ⟨w.heap.size + 1, 1, none⟩) nS q1
  replace q2 := m7.cell (a := ⟨w.heap.size + 1, 2, none⟩) nS q2
  replace K := hide ((unhide K).mod m7 (fun i e => by have := hS i e; omega))
  have z7 := m7.size
  have j1 := unhide HGS
  have j2 := unhide HGL
  have j3 := unhide HGE
  have j4 := unhide HGB
  rw [unhide HC] at j1 j2 j3 j4
  rw [j1, j3, j4]
  rw [j2] at r7
  clear j1 j2 j3 j4 m7 hS nS nd dd ee wn hn
  obtain ⟨a7, c7, hv⟩ := Row.form' r7
  subst hv
  have R := hide ((((r7.set_other (p := ⟨w.heap.size + 1, 0, none⟩) (.inl (by have := unhide S0; dsimp only; omega)) (.bool GS)).set_other (p := ⟨w.heap.size + 1, 1, none⟩) (.inl (by have := unhide S0; dsimp only; omega)) (.slice a7 GL.length c7)).set_other (p := ⟨w.heap.size + 1, 2, none⟩) (.inl (by have := unhide S0; dsimp only; omega)) (.int .i64 GE)).tight.wider (lo' := w.heap.size) (by have := unhide S0; omega) (Nat.le_refl _))
  have K7 := hide ((((unhide K).setNew (p := ⟨w.heap.size + 1, 0, none⟩) (by simp) (.bool GS)).setNew (p := ⟨w.heap.size + 1, 1, none⟩) (by simp) (.slice a7 GL.length c7)).setNew (p := ⟨w.heap.size + 1, 2, none⟩) (by simp) (.int .i64 GE))
  clear r7 K 
  go_wp2_with fail
  exact bodyPost_ret (v := .tuple #[.agg #[.bool GS, .slice a7 GL.length c7, .int .i64 GE], .bool GB]) (by simp [results, Tryd.results11, go_sem, q0, q1, q2]) rfl ⟨_, rfl, unhide R, unhide K7⟩

end Go.Proofs.YtedknfciomoofaaDoor

namespace Go.Proofs.YtedknfciomoofaaDoor
open Go.RowKit
set_option linter.unusedVariables false
set_option maxRecDepth 8000
set_option linter.unusedSimpArgs false

theorem Drawn.set {g lo : Nat} {a w : World} (h : Drawn g lo a w) {p : Addr} (hg : g < p.block) (hp : a.heap.size ≤ p.block) (u : Value) : Drawn g lo a (w.setCell p u) := ⟨h.1.setFar hg u, h.2.setNew hp u⟩
theorem Drawn.alloc {g lo : Nat} {a w : World} (h : Drawn g lo a w) (ob : Obj) : Drawn g lo a (w.alloc ob) := h.keptR ((Kept.refl 0 0 w).alloc ob)
theorem Drawn.start {g lo : Nat} {w : World} (c : Cur g lo w) (ob : Obj) : Drawn g lo w (w.alloc ob) := ⟨c.kept ((Kept.refl 0 0 w).alloc ob) (by omega), ((Kept.refl 0 0 w).alloc ob).any⟩

set_option maxHeartbeats 4000000 in
theorem draw3_any (g lo : Nat) (w : World) (c : Cur g lo w) :
    Calls Tryd.prog 71 #[.pointer (some ⟨g, 0, none⟩)] w fun e w' => ∃ v s zs, e = .returned (.agg #[.bool s, v]) ∧ Row .i64 true w.heap.size w'.heap.size w' v zs ∧ WN s zs ∧ zs.length ≤ 100 ∧ Drawn g lo w w' := by
  have hg := c.1
  have D := Drawn.start c (.cells #[.bool false, .slice none 0 0] 28)
  have q0 : (w.alloc (.cells #[.bool false, .slice none 0 0] 28)).cell? ⟨w.heap.size, 0, none⟩ = some (.bool false) := new_cell2 _ _ _ _ _ _ rfl rfl
  have qf0 : (w.alloc (.cells #[.bool false, .slice none 0 0] 28)).frozen? ⟨w.heap.size, 0, none⟩ = false := new_loose2 _ _ _ _ _ rfl
  have q1 : (w.alloc (.cells #[.bool false, .slice none 0 0] 28)).cell? ⟨w.heap.size, 1, none⟩ = some (.slice none 0 0) := new_cell2 _ _ _ _ _ _ rfl rfl
  have qf1 : (w.alloc (.cells #[.bool false, .slice none 0 0] 28)).frozen? ⟨w.heap.size, 1, none⟩ = false := new_loose2 _ _ _ _ _ rfl
  have s0 : w.heap.size < (w.alloc (.cells #[.bool false, .slice none 0 0] 28)).heap.size := by simp
  clear c
  go_enter Tryd.func71, Tryd.ntmps71
  go_wp2_with fail
  generalize w.alloc (.cells #[.bool false, .slice none 0 0] 28) = W at *
  go_wp2_with fail
  refine (l1Once_any g lo _ D.1 2).mono ?_
  rintro e w1 ⟨b, rfl, hd⟩
  have kk := hd.kept
  replace D := D.trans hd.drawn
  replace qf0 := Kept.looseOut' kk (by dsimp only; omega) (World.block_lt_of_cell? _ _ q0) qf0
  replace qf1 := Kept.looseOut' kk (by dsimp only; omega) (World.block_lt_of_cell? _ _ q1) qf1
  replace q0 := Kept.cellOut kk (by dsimp only; omega) q0
  replace q1 := Kept.cellOut kk (by dsimp only; omega) q1
  have z2 := kk.size
  clear kk hd
  go_wp2_with fail
  refine (draw_any g lo _ D.1).mono ?_
  rintro e w3 ⟨v5, rfl, zs, own, hn, hl, hd⟩
  have kk := hd.2
  replace D := D.trans hd
  replace qf0 := Kept.looseOut' kk (by dsimp only; omega) (World.block_lt_of_cell? _ _ q0) qf0
  replace qf1 := Kept.looseOut' kk (by dsimp only; omega) (World.block_lt_of_cell? _ _ q1) qf1
  replace q0 := Kept.cellOut kk (by dsimp only; omega) q0
  replace q1 := Kept.cellOut kk (by dsimp only; omega) q1
  have z4 := kk.size
  clear kk hd
  have r5 := Row.own own
  clear own
  go_wp2_with fail
  refine (make_spec b _ r5 hn.1 (by omega)).mono ?_
  rintro e w5 ⟨v6, rfl, r6, kk⟩
  replace D := D.keptR kk
  replace r5 := r5.kept kk (by omega)
  replace qf0 := Kept.looseOut' kk (by dsimp only; omega) (World.block_lt_of_cell? _ _ q0) qf0
  replace qf1 := Kept.looseOut' kk (by dsimp only; omega) (World.block_lt_of_cell? _ _ q1) qf1
  replace q0 := Kept.cellOut kk (by dsimp only; omega) q0
  replace q1 := Kept.cellOut kk (by dsimp only; omega) q1
  have z6 := kk.size
  clear kk
  clear r5
  obtain ⟨zz, hzz⟩ : ∃ y, limbs (val zs).toNat = y := ⟨_, rfl⟩
  have hln : zz.length ≤ 100 := by rw [← hzz, ← nrm_limbs hn]; exact hl
  have wn : WN (b && decide (0 < zs.length)) zz := by rw [← hzz, ← nrm_limbs hn]; exact ⟨hn, fun h => by simp at h; exact List.length_pos_iff.2 (fun e => by simp [e] at h)⟩
  have WNN := hide wn
  rw [hzz] at r6
  clear hzz wn
  generalize (b && decide (0 < zs.length)) = sb at *
  obtain ⟨a6, c6, hv⟩ := Row.form' r6
  subst hv
  have R := hide (((r6.set_other (p := ⟨w.heap.size, 0, none⟩) (.inl (by dsimp only; omega)) (.bool sb)).set_other (p := ⟨w.heap.size, 1, none⟩) (.inl (by dsimp only; omega)) (.slice a6 zz.length c6)).tight.wider (lo' := w.heap.size) (by omega) (Nat.le_refl _))
  have DD := hide ((D.set (p := ⟨w.heap.size, 0, none⟩) hg (Nat.le_refl _) (.bool sb)).set (p := ⟨w.heap.size, 1, none⟩) hg (Nat.le_refl _) (.slice a6 zz.length c6))
  clear r6 D 
  go_wp2_with fail
  exact bodyPost_ret (v := .agg #[.bool sb, .slice a6 zz.length c6]) (by simp [results, Tryd.results71, go_sem, q0, q1]) rfl ⟨_, _, _, rfl, unhide R, unhide WNN, hln, unhide DD⟩

set_option maxHeartbeats 4000000 in
theorem bent3_any (g lo : Nat) (w : World) (c : Cur g lo w) :
    Calls Tryd.prog 52 #[.pointer (some ⟨g, 0, none⟩)] w fun e w' => ∃ v s zs, e = .returned (.agg #[.bool s, v]) ∧ Row .i64 true w.heap.size w'.heap.size w' v zs ∧ Drawn g lo w w' := by
  have hg := c.1
  have D := Drawn.start c (.cells #[.bool false, .slice none 0 0] 28)
  have q0 : (w.alloc (.cells #[.bool false, .slice none 0 0] 28)).cell? ⟨w.heap.size, 0, none⟩ = some (.bool false) := new_cell2 _ _ _ _ _ _ rfl rfl
  have qf0 : (w.alloc (.cells #[.bool false, .slice none 0 0] 28)).frozen? ⟨w.heap.size, 0, none⟩ = false := new_loose2 _ _ _ _ _ rfl
  have q1 : (w.alloc (.cells #[.bool false, .slice none 0 0] 28)).cell? ⟨w.heap.size, 1, none⟩ = some (.slice none 0 0) := new_cell2 _ _ _ _ _ _ rfl rfl
  have qf1 : (w.alloc (.cells #[.bool false, .slice none 0 0] 28)).frozen? ⟨w.heap.size, 1, none⟩ = false := new_loose2 _ _ _ _ _ rfl
  have s0 : w.heap.size < (w.alloc (.cells #[.bool false, .slice none 0 0] 28)).heap.size := by simp
  clear c
  go_enter Tryd.func52, Tryd.ntmps52
  go_wp2_with fail
  generalize w.alloc (.cells #[.bool false, .slice none 0 0] 28) = W at *
  go_wp2_with fail
  refine (draw3_any g lo _ D.1).mono ?_
  rintro e w1 ⟨v5, s5, zs, rfl, r5, -, -, hd⟩
  have kk := hd.2
  replace D := D.trans hd
  replace qf0 := Kept.looseOut' kk (by dsimp only; omega) (World.block_lt_of_cell? _ _ q0) qf0
  replace qf1 := Kept.looseOut' kk (by dsimp only; omega) (World.block_lt_of_cell? _ _ q1) qf1
  replace q0 := Kept.cellOut kk (by dsimp only; omega) q0
  replace q1 := Kept.cellOut kk (by dsimp only; omega) q1
  have z2 := kk.size
  clear kk hd
  obtain ⟨a5, c5, hv⟩ := Row.form' r5
  subst hv
  have kk := (Kept.refl 0 0 w1).alloc (.cells #[.bool s5, .slice a5 zs.length c5] 28)
  have y0 : (w1.alloc (.cells #[.bool s5, .slice a5 zs.length c5] 28)).cell? ⟨w1.heap.size, 0, none⟩ = some (.bool s5) := new_cell2 _ _ _ _ _ _ rfl rfl
  have yf0 : (w1.alloc (.cells #[.bool s5, .slice a5 zs.length c5] 28)).frozen? ⟨w1.heap.size, 0, none⟩ = false := new_loose2 _ _ _ _ _ rfl
  have y1 : (w1.alloc (.cells #[.bool s5, .slice a5 zs.length c5] 28)).cell? ⟨w1.heap.size, 1, none⟩ = some (.slice a5 zs.length c5) := new_cell2 _ _ _ _ _ _ rfl rfl
  have yf1 : (w1.alloc (.cells #[.bool s5, .slice a5 zs.length c5] 28)).frozen? ⟨w1.heap.size, 1, none⟩ = false := new_loose2 _ _ _ _ _ rfl
  replace D := D.keptR kk
  have yy : w1.heap.size < (w1.alloc (.cells #[.bool s5, .slice a5 zs.length c5] 28)).heap.size := by simp
  replace r5 := r5.kept kk (by omega)
  replace qf0 := Kept.looseOut' kk (by dsimp only; omega) (World.block_lt_of_cell? _ _ q0) qf0
  replace qf1 := Kept.looseOut' kk (by dsimp only; omega) (World.block_lt_of_cell? _ _ q1) qf1
  replace q0 := Kept.cellOut kk (by dsimp only; omega) q0
  replace q1 := Kept.cellOut kk (by dsimp only; omega) q1
  have z3 := kk.size
  clear kk
  go_wp2_with fail
  generalize w1.alloc (.cells #[.bool s5, .slice a5 zs.length c5] 28) = w4 at *
  refine (l1Once_any g lo _ D.1 9).mono ?_
  rintro e w5 ⟨b1, rfl, hd⟩
  have kk := hd.kept
  replace D := D.trans hd.drawn
  replace r5 := r5.kept kk (by omega)
  replace qf0 := Kept.looseOut' kk (by dsimp only; omega) (World.block_lt_of_cell? _ _ q0) qf0
  replace qf1 := Kept.looseOut' kk (by dsimp only; omega) (World.block_lt_of_cell? _ _ q1) qf1
  replace yf0 := Kept.looseOut' kk (by dsimp only; omega) (World.block_lt_of_cell? _ _ y0) yf0
  replace yf1 := Kept.looseOut' kk (by dsimp only; omega) (World.block_lt_of_cell? _ _ y1) yf1
  replace q0 := Kept.cellOut kk (by dsimp only; omega) q0
  replace q1 := Kept.cellOut kk (by dsimp only; omega) q1
  replace y0 := Kept.cellOut kk (by dsimp only; omega) y0
  replace y1 := Kept.cellOut kk (by dsimp only; omega) y1
  have z6 := kk.size
  clear kk hd
  cases b1
  · skip
    have R := hide (((r5.set_other (p := ⟨w.heap.size, 0, none⟩) (.inl (by dsimp only; omega)) (.bool s5)).set_other (p := ⟨w.heap.size, 1, none⟩) (.inl (by dsimp only; omega)) (.slice a5 zs.length c5)).tight.wider (lo' := w.heap.size) (by omega) (Nat.le_refl _))
    have DD := hide ((D.set (p := ⟨w.heap.size, 0, none⟩) hg (Nat.le_refl _) (.bool s5)).set (p := ⟨w.heap.size, 1, none⟩) hg (Nat.le_refl _) (.slice a5 zs.length c5))
    clear r5 D 
    go_wp2_with fail
    exact bodyPost_ret (v := .agg #[.bool s5, .slice a5 zs.length c5]) (by simp [results, Tryd.results52, go_sem, q0, q1]) rfl ⟨_, _, _, rfl, unhide R, unhide DD⟩
  go_wp2_with fail
  refine (l1Once_any g lo _ D.1 2).mono ?_
  rintro e w7 ⟨b2, rfl, hd⟩
  have kk := hd.kept
  replace D := D.trans hd.drawn
  replace r5 := r5.kept kk (by omega)
  replace qf0 := Kept.looseOut' kk (by dsimp only; omega) (World.block_lt_of_cell? _ _ q0) qf0
  replace qf1 := Kept.looseOut' kk (by dsimp only; omega) (World.block_lt_of_cell? _ _ q1) qf1
  replace yf0 := Kept.looseOut' kk (by dsimp only; omega) (World.block_lt_of_cell? _ _ y0) yf0
  replace yf1 := Kept.looseOut' kk (by dsimp only; omega) (World.block_lt_of_cell? _ _ y1) yf1
  replace q0 := Kept.cellOut kk (by dsimp only; omega) q0
  replace q1 := Kept.cellOut kk (by dsimp only; omega) q1
  replace y0 := Kept.cellOut kk (by dsimp only; omega) y0
  replace y1 := Kept.cellOut kk (by dsimp only; omega) y1
  have z8 := kk.size
  clear kk hd
  cases b2
  rotate_left
  · have DD := hide ((D.set (p := ⟨w.heap.size, 0, none⟩) hg (Nat.le_refl _) (.bool true)).set (p := ⟨w.heap.size, 1, none⟩) hg (Nat.le_refl _) (.slice none 0 0))
    clear r5 D 
    go_wp2_with fail
    exact bodyPost_ret (v := .agg #[.bool true, .slice none 0 0]) (by simp [results, Tryd.results52, go_sem, q0, q1]) rfl ⟨_, _, [], rfl, Row.nil _ _ _ _ _, unhide DD⟩
  go_wp2_with fail
  refine (bent_any g lo _ D.1).mono ?_
  rintro e w9 ⟨v7, rfl, z7, own, -, -, hd⟩
  have kk := hd.2
  replace D := D.trans hd
  replace r5 := r5.kept kk (by omega)
  replace qf0 := Kept.looseOut' kk (by dsimp only; omega) (World.block_lt_of_cell? _ _ q0) qf0
  replace qf1 := Kept.looseOut' kk (by dsimp only; omega) (World.block_lt_of_cell? _ _ q1) qf1
  replace yf0 := Kept.looseOut' kk (by dsimp only; omega) (World.block_lt_of_cell? _ _ y0) yf0
  replace yf1 := Kept.looseOut' kk (by dsimp only; omega) (World.block_lt_of_cell? _ _ y1) yf1
  replace q0 := Kept.cellOut kk (by dsimp only; omega) q0
  replace q1 := Kept.cellOut kk (by dsimp only; omega) q1
  replace y0 := Kept.cellOut kk (by dsimp only; omega) y0
  replace y1 := Kept.cellOut kk (by dsimp only; omega) y1
  have z10 := kk.size
  clear kk hd
  have r7 := Row.own own
  clear own
  obtain ⟨a7, c7, hv⟩ := Row.form' r7
  subst hv
  have D2 := D.set (p := ⟨w1.heap.size, 1, none⟩) (by dsimp only; omega) (by dsimp only; omega) (.slice a7 z7.length c7)
  have r8 := r7.set_other (p := ⟨w1.heap.size, 1, none⟩) (.inl (by dsimp only; omega)) (.slice a7 z7.length c7)
  have p0 := cell_aside (.slice a7 z7.length c7) (r := ⟨w1.heap.size, 1, none⟩) (by dsimp only; omega) q0
  have p1 := cell_aside (.slice a7 z7.length c7) (r := ⟨w1.heap.size, 1, none⟩) (by dsimp only; omega) q1
  have R := hide (((r8.set_other (p := ⟨w.heap.size, 0, none⟩) (.inl (by dsimp only; omega)) (.bool s5)).set_other (p := ⟨w.heap.size, 1, none⟩) (.inl (by dsimp only; omega)) (.slice a7 z7.length c7)).tight.wider (lo' := w.heap.size) (by omega) (Nat.le_refl _))
  have DD := hide ((D2.set (p := ⟨w.heap.size, 0, none⟩) hg (Nat.le_refl _) (.bool s5)).set (p := ⟨w.heap.size, 1, none⟩) hg (Nat.le_refl _) (.slice a7 z7.length c7))
  clear r5 r7 r8 D D2
  go_wp2_with fail
  exact bodyPost_ret (v := .agg #[.bool s5, .slice a7 z7.length c7]) (by simp [results, Tryd.results52, go_sem, q0, q1, p0, p1]) rfl ⟨_, _, _, rfl, unhide R, unhide DD⟩

end Go.Proofs.YtedknfciomoofaaDoor

namespace Go.Proofs.YtedknfciomoofaaDoor
open Go.RowKit
set_option linter.unusedVariables false
set_option maxRecDepth 8000
set_option linter.unusedSimpArgs false

theorem ansDE_range (c : Bool) (m x : Int) : -3000 ≤ ansDE c m x ∧ ansDE c m x ≤ 3000 := by
  unfold ansDE
  split
  · rename_i h
    unfold ansDB at h
    rw [Bool.and_eq_true] at h
    have := dok_parts h.2
    exact ⟨this.2.1, this.2.2.1⟩
  · omega

set_option maxHeartbeats 8000000 in
theorem draw4_any (g lo : Nat) (w : World) (c : Cur g lo w) :
    Calls Tryd.prog 50 #[.pointer (some ⟨g, 0, none⟩)] w fun e w' => ∃ v s x zs, e = .returned (.agg #[.bool s, v, .int .i64 x]) ∧ Row .i64 true w.heap.size w'.heap.size w' v zs ∧ -3000 ≤ x ∧ x ≤ 3000 ∧ Drawn g lo w w' := by
  have hg := c.1
  have D := Drawn.start c (.cells #[.bool false, .slice none 0 0, .int .i64 0] 30)
  have q0 : (w.alloc (.cells #[.bool false, .slice none 0 0, .int .i64 0] 30)).cell? ⟨w.heap.size, 0, none⟩ = some (.bool false) := new_cell2 _ _ _ _ _ _ rfl rfl
  have qf0 : (w.alloc (.cells #[.bool false, .slice none 0 0, .int .i64 0] 30)).frozen? ⟨w.heap.size, 0, none⟩ = false := new_loose2 _ _ _ _ _ rfl
  have q1 : (w.alloc (.cells #[.bool false, .slice none 0 0, .int .i64 0] 30)).cell? ⟨w.heap.size, 1, none⟩ = some (.slice none 0 0) := new_cell2 _ _ _ _ _ _ rfl rfl
  have qf1 : (w.alloc (.cells #[.bool false, .slice none 0 0, .int .i64 0] 30)).frozen? ⟨w.heap.size, 1, none⟩ = false := new_loose2 _ _ _ _ _ rfl
  have q2 : (w.alloc (.cells #[.bool false, .slice none 0 0, .int .i64 0] 30)).cell? ⟨w.heap.size, 2, none⟩ = some (.int .i64 0) := new_cell2 _ _ _ _ _ _ rfl rfl
  have qf2 : (w.alloc (.cells #[.bool false, .slice none 0 0, .int .i64 0] 30)).frozen? ⟨w.heap.size, 2, none⟩ = false := new_loose2 _ _ _ _ _ rfl
  have s0 : w.heap.size < (w.alloc (.cells #[.bool false, .slice none 0 0, .int .i64 0] 30)).heap.size := by simp
  clear c
  go_enter Tryd.func50, Tryd.ntmps50
  go_wp2_with fail
  generalize w.alloc (.cells #[.bool false, .slice none 0 0, .int .i64 0] 30) = W at *
  go_wp2_with fail
  refine (draw3_any g lo _ D.1).mono ?_
  rintro e w1 ⟨v5, s5, zs, rfl, r5, -, -, hd⟩
  have kk := hd.2
  replace D := D.trans hd
  replace qf0 := Kept.looseOut' kk (by dsimp only; omega) (World.block_lt_of_cell? _ _ q0) qf0
  replace qf1 := Kept.looseOut' kk (by dsimp only; omega) (World.block_lt_of_cell? _ _ q1) qf1
  replace qf2 := Kept.looseOut' kk (by dsimp only; omega) (World.block_lt_of_cell? _ _ q2) qf2
  replace q0 := Kept.cellOut kk (by dsimp only; omega) q0
  replace q1 := Kept.cellOut kk (by dsimp only; omega) q1
  replace q2 := Kept.cellOut kk (by dsimp only; omega) q2
  have z2 := kk.size
  clear kk hd
  obtain ⟨a5, c5, hv⟩ := Row.form' r5
  subst hv
  have kk := (Kept.refl 0 0 w1).alloc (.cells #[.bool s5, .slice a5 zs.length c5] 28)
  have y0 : (w1.alloc (.cells #[.bool s5, .slice a5 zs.length c5] 28)).cell? ⟨w1.heap.size, 0, none⟩ = some (.bool s5) := new_cell2 _ _ _ _ _ _ rfl rfl
  have yf0 : (w1.alloc (.cells #[.bool s5, .slice a5 zs.length c5] 28)).frozen? ⟨w1.heap.size, 0, none⟩ = false := new_loose2 _ _ _ _ _ rfl
  have y1 : (w1.alloc (.cells #[.bool s5, .slice a5 zs.length c5] 28)).cell? ⟨w1.heap.size, 1, none⟩ = some (.slice a5 zs.length c5) := new_cell2 _ _ _ _ _ _ rfl rfl
  have yf1 : (w1.alloc (.cells #[.bool s5, .slice a5 zs.length c5] 28)).frozen? ⟨w1.heap.size, 1, none⟩ = false := new_loose2 _ _ _ _ _ rfl
  replace D := D.keptR kk
  have yy : w1.heap.size < (w1.alloc (.cells #[.bool s5, .slice a5 zs.length c5] 28)).heap.size := by simp
  replace r5 := r5.kept kk (by omega)
  replace qf0 := Kept.looseOut' kk (by dsimp only; omega) (World.block_lt_of_cell? _ _ q0) qf0
  replace qf1 := Kept.looseOut' kk (by dsimp only; omega) (World.block_lt_of_cell? _ _ q1) qf1
  replace qf2 := Kept.looseOut' kk (by dsimp only; omega) (World.block_lt_of_cell? _ _ q2) qf2
  replace q0 := Kept.cellOut kk (by dsimp only; omega) q0
  replace q1 := Kept.cellOut kk (by dsimp only; omega) q1
  replace q2 := Kept.cellOut kk (by dsimp only; omega) q2
  have z3 := kk.size
  clear kk
  go_wp2_with fail
  generalize w1.alloc (.cells #[.bool s5, .slice a5 zs.length c5] 28) = w4 at *
  refine (l1Once_any g lo _ D.1 3).mono ?_
  rintro e w5 ⟨b1, rfl, hd⟩
  have kk := hd.kept
  replace D := D.trans hd.drawn
  replace r5 := r5.kept kk (by omega)
  replace qf0 := Kept.looseOut' kk (by dsimp only; omega) (World.block_lt_of_cell? _ _ q0) qf0
  replace qf1 := Kept.looseOut' kk (by dsimp only; omega) (World.block_lt_of_cell? _ _ q1) qf1
  replace qf2 := Kept.looseOut' kk (by dsimp only; omega) (World.block_lt_of_cell? _ _ q2) qf2
  replace yf0 := Kept.looseOut' kk (by dsimp only; omega) (World.block_lt_of_cell? _ _ y0) yf0
  replace yf1 := Kept.looseOut' kk (by dsimp only; omega) (World.block_lt_of_cell? _ _ y1) yf1
  replace q0 := Kept.cellOut kk (by dsimp only; omega) q0
  replace q1 := Kept.cellOut kk (by dsimp only; omega) q1
  replace q2 := Kept.cellOut kk (by dsimp only; omega) q2
  replace y0 := Kept.cellOut kk (by dsimp only; omega) y0
  replace y1 := Kept.cellOut kk (by dsimp only; omega) y1
  have z6 := kk.size
  clear kk hd
  cases b1
  · go_wp2_with fail
    refine (l1Below_any g lo _ D.1 24).mono ?_
    rintro e w7 ⟨x, rfl, -, hbx, hd⟩
    have kk := hd.kept
    replace D := D.trans hd.drawn
    replace hbx := hbx (by decide)
    replace r5 := r5.kept kk (by omega)
    replace qf0 := Kept.looseOut' kk (by dsimp only; omega) (World.block_lt_of_cell? _ _ q0) qf0
    replace qf1 := Kept.looseOut' kk (by dsimp only; omega) (World.block_lt_of_cell? _ _ q1) qf1
    replace qf2 := Kept.looseOut' kk (by dsimp only; omega) (World.block_lt_of_cell? _ _ q2) qf2
    replace yf0 := Kept.looseOut' kk (by dsimp only; omega) (World.block_lt_of_cell? _ _ y0) yf0
    replace yf1 := Kept.looseOut' kk (by dsimp only; omega) (World.block_lt_of_cell? _ _ y1) yf1
    replace q0 := Kept.cellOut kk (by dsimp only; omega) q0
    replace q1 := Kept.cellOut kk (by dsimp only; omega) q1
    replace q2 := Kept.cellOut kk (by dsimp only; omega) q2
    replace y0 := Kept.cellOut kk (by dsimp only; omega) y0
    replace y1 := Kept.cellOut kk (by dsimp only; omega) y1
    have z8 := kk.size
    clear kk hd
    have hwx : IntKind.i64.wrap (x - 12) = x - 12 := w64 _ (by omega) (by omega)
    go_wp2_with fail
    refine (l1Once_any g lo _ D.1 6).mono ?_
    rintro e w9 ⟨b3, rfl, hd⟩
    have kk := hd.kept
    replace D := D.trans hd.drawn
    replace r5 := r5.kept kk (by omega)
    replace qf0 := Kept.looseOut' kk (by dsimp only; omega) (World.block_lt_of_cell? _ _ q0) qf0
    replace qf1 := Kept.looseOut' kk (by dsimp only; omega) (World.block_lt_of_cell? _ _ q1) qf1
    replace qf2 := Kept.looseOut' kk (by dsimp only; omega) (World.block_lt_of_cell? _ _ q2) qf2
    replace yf0 := Kept.looseOut' kk (by dsimp only; omega) (World.block_lt_of_cell? _ _ y0) yf0
    replace yf1 := Kept.looseOut' kk (by dsimp only; omega) (World.block_lt_of_cell? _ _ y1) yf1
    replace q0 := Kept.cellOut kk (by dsimp only; omega) q0
    replace q1 := Kept.cellOut kk (by dsimp only; omega) q1
    replace q2 := Kept.cellOut kk (by dsimp only; omega) q2
    replace y0 := Kept.cellOut kk (by dsimp only; omega) y0
    replace y1 := Kept.cellOut kk (by dsimp only; omega) y1
    have z10 := kk.size
    clear kk hd
    cases b3
    · go_wp2_with fail
      refine (dof_spec s5 (x - 12) _ r5).mono ?_
      rintro e w11 ⟨v9, rfl, r9, kk⟩
      have gr := ansDE_range (wokB s5 zs && l4eB (x - 12)) (wval s5 zs) (x - 12)
      replace D := D.keptR kk
      replace r5 := r5.kept kk (by omega)
      replace qf0 := Kept.looseOut' kk (by dsimp only; omega) (World.block_lt_of_cell? _ _ q0) qf0
      replace qf1 := Kept.looseOut' kk (by dsimp only; omega) (World.block_lt_of_cell? _ _ q1) qf1
      replace qf2 := Kept.looseOut' kk (by dsimp only; omega) (World.block_lt_of_cell? _ _ q2) qf2
      replace yf0 := Kept.looseOut' kk (by dsimp only; omega) (World.block_lt_of_cell? _ _ y0) yf0
      replace yf1 := Kept.looseOut' kk (by dsimp only; omega) (World.block_lt_of_cell? _ _ y1) yf1
      replace q0 := Kept.cellOut kk (by dsimp only; omega) q0
      replace q1 := Kept.cellOut kk (by dsimp only; omega) q1
      replace q2 := Kept.cellOut kk (by dsimp only; omega) q2
      replace y0 := Kept.cellOut kk (by dsimp only; omega) y0
      replace y1 := Kept.cellOut kk (by dsimp only; omega) y1
      have z12 := kk.size
      clear kk
      generalize ansDS (wokB s5 zs && l4eB (x - 12)) (wval s5 zs) (x - 12) = GS at *
      generalize ansDL (wokB s5 zs && l4eB (x - 12)) (wval s5 zs) (x - 12) = GL at *
      generalize ansDE (wokB s5 zs && l4eB (x - 12)) (wval s5 zs) (x - 12) = GE at *
      generalize ansDB (wokB s5 zs && l4eB (x - 12)) (wval s5 zs) (x - 12) = GB at *
      obtain ⟨a9, c9, hv⟩ := Row.form' r9
      subst hv
      cases GB
      · have kk := (Kept.refl 0 0 w11).alloc (.cells #[.bool GS, .slice a9 GL.length c9, .int .i64 GE] 30)
        have u0 : (w11.alloc (.cells #[.bool GS, .slice a9 GL.length c9, .int .i64 GE] 30)).cell? ⟨w11.heap.size, 0, none⟩ = some (.bool GS) := new_cell2 _ _ _ _ _ _ rfl rfl
        have u1 : (w11.alloc (.cells #[.bool GS, .slice a9 GL.length c9, .int .i64 GE] 30)).cell? ⟨w11.heap.size, 1, none⟩ = some (.slice a9 GL.length c9) := new_cell2 _ _ _ _ _ _ rfl rfl
        have u2 : (w11.alloc (.cells #[.bool GS, .slice a9 GL.length c9, .int .i64 GE] 30)).cell? ⟨w11.heap.size, 2, none⟩ = some (.int .i64 GE) := new_cell2 _ _ _ _ _ _ rfl rfl
        replace D := D.keptR kk
        replace r5 := r5.kept kk (by omega)
        replace r9 := r9.kept kk (by omega)
        replace qf0 := Kept.looseOut' kk (by dsimp only; omega) (World.block_lt_of_cell? _ _ q0) qf0
        replace qf1 := Kept.looseOut' kk (by dsimp only; omega) (World.block_lt_of_cell? _ _ q1) qf1
        replace qf2 := Kept.looseOut' kk (by dsimp only; omega) (World.block_lt_of_cell? _ _ q2) qf2
        replace yf0 := Kept.looseOut' kk (by dsimp only; omega) (World.block_lt_of_cell? _ _ y0) yf0
        replace yf1 := Kept.looseOut' kk (by dsimp only; omega) (World.block_lt_of_cell? _ _ y1) yf1
        replace q0 := Kept.cellOut kk (by dsimp only; omega) q0
        replace q1 := Kept.cellOut kk (by dsimp only; omega) q1
        replace q2 := Kept.cellOut kk (by dsimp only; omega) q2
        replace y0 := Kept.cellOut kk (by dsimp only; omega) y0
        replace y1 := Kept.cellOut kk (by dsimp only; omega) y1
        have z13 := kk.size
        clear kk
        have DD := hide (((D.set (p := ⟨w.heap.size, 0, none⟩) hg (Nat.le_refl _) (.bool false)).set (p := ⟨w.heap.size, 1, none⟩) hg (Nat.le_refl _) (.slice none 0 0)).set (p := ⟨w.heap.size, 2, none⟩) hg (Nat.le_refl _) (.int .i64 0))
        clear r5 r9 D 
        go_wp2_with fail
        exact bodyPost_ret (v := .agg #[.bool false, .slice none 0 0, .int .i64 0]) (by simp [results, Tryd.results50, go_sem, q0, q1, q2]) rfl ⟨_, _, _, [], rfl, Row.nil _ _ _ _ _, by omega, by omega, unhide DD⟩
      · have kk := (Kept.refl 0 0 w11).alloc (.cells #[.bool GS, .slice a9 GL.length c9, .int .i64 GE] 30)
        have u0 : (w11.alloc (.cells #[.bool GS, .slice a9 GL.length c9, .int .i64 GE] 30)).cell? ⟨w11.heap.size, 0, none⟩ = some (.bool GS) := new_cell2 _ _ _ _ _ _ rfl rfl
        have u1 : (w11.alloc (.cells #[.bool GS, .slice a9 GL.length c9, .int .i64 GE] 30)).cell? ⟨w11.heap.size, 1, none⟩ = some (.slice a9 GL.length c9) := new_cell2 _ _ _ _ _ _ rfl rfl
        have u2 : (w11.alloc (.cells #[.bool GS, .slice a9 GL.length c9, .int .i64 GE] 30)).cell? ⟨w11.heap.size, 2, none⟩ = some (.int .i64 GE) := new_cell2 _ _ _ _ _ _ rfl rfl
        replace D := D.keptR kk
        replace r5 := r5.kept kk (by omega)
        replace r9 := r9.kept kk (by omega)
        replace qf0 := Kept.looseOut' kk (by dsimp only; omega) (World.block_lt_of_cell? _ _ q0) qf0
        replace qf1 := Kept.looseOut' kk (by dsimp only; omega) (World.block_lt_of_cell? _ _ q1) qf1
        replace qf2 := Kept.looseOut' kk (by dsimp only; omega) (World.block_lt_of_cell? _ _ q2) qf2
        replace yf0 := Kept.looseOut' kk (by dsimp only; omega) (World.block_lt_of_cell? _ _ y0) yf0
        replace yf1 := Kept.looseOut' kk (by dsimp only; omega) (World.block_lt_of_cell? _ _ y1) yf1
        replace q0 := Kept.cellOut kk (by dsimp only; omega) q0
        replace q1 := Kept.cellOut kk (by dsimp only; omega) q1
        replace q2 := Kept.cellOut kk (by dsimp only; omega) q2
        replace y0 := Kept.cellOut kk (by dsimp only; omega) y0
        replace y1 := Kept.cellOut kk (by dsimp only; omega) y1
        have z13 := kk.size
        clear kk
        have R := hide ((((r9.set_other (p := ⟨w.heap.size, 0, none⟩) (.inl (by dsimp only; omega)) (.bool GS)).set_other (p := ⟨w.heap.size, 1, none⟩) (.inl (by dsimp only; omega)) (.slice a9 GL.length c9)).set_other (p := ⟨w.heap.size, 2, none⟩) (.inl (by dsimp only; omega)) (.int .i64 GE)).tight.wider (lo' := w.heap.size) (by omega) (Nat.le_refl _))
        have DD := hide (((D.set (p := ⟨w.heap.size, 0, none⟩) hg (Nat.le_refl _) (.bool GS)).set (p := ⟨w.heap.size, 1, none⟩) hg (Nat.le_refl _) (.slice a9 GL.length c9)).set (p := ⟨w.heap.size, 2, none⟩) hg (Nat.le_refl _) (.int .i64 GE))
        clear r5 r9 D 
        go_wp2_with fail
        exact bodyPost_ret (v := .agg #[.bool GS, .slice a9 GL.length c9, .int .i64 GE]) (by simp [results, Tryd.results50, go_sem, q0, q1, q2]) rfl ⟨_, _, _, _, rfl, unhide R, by omega, by omega, unhide DD⟩
    · go_wp2_with fail
      have hr := Row.lit .i64 w9 3 [0, -60, 60, -1074, 900, -2990, 2990, -100] (by simp [maxLen])
      have gW : g < w9.heap.size := D.1.1
      refine (l1PickInt_any g lo _ (D.1.kept ((Kept.refl 0 0 w9).alloc _) (by omega)) hr (by simp) (by omega)).mono ?_
      rintro e w11 ⟨x2, rfl, hxx2, hd⟩
      have hbx2 : -2990 ≤ x2 ∧ x2 ≤ 2990 := by
        simp only [List.mem_cons, List.not_mem_nil, or_false] at hxx2
        omega
      have kk := (((Kept.refl 0 0 w9).alloc (.cells ([0, -60, 60, -1074, 900, -2990, 2990, -100].map (Value.int .i64)).toArray 3)).any (lo := g) (hi := g + 1)).trans hd.2.1
      replace D : Drawn g lo w w11 := ⟨hd.1, D.2.trans kk⟩
      replace r5 := r5.kept kk (by omega)
      replace qf0 := Kept.looseOut' kk (by dsimp only; omega) (World.block_lt_of_cell? _ _ q0) qf0
      replace qf1 := Kept.looseOut' kk (by dsimp only; omega) (World.block_lt_of_cell? _ _ q1) qf1
      replace qf2 := Kept.looseOut' kk (by dsimp only; omega) (World.block_lt_of_cell? _ _ q2) qf2
      replace yf0 := Kept.looseOut' kk (by dsimp only; omega) (World.block_lt_of_cell? _ _ y0) yf0
      replace yf1 := Kept.looseOut' kk (by dsimp only; omega) (World.block_lt_of_cell? _ _ y1) yf1
      replace q0 := Kept.cellOut kk (by dsimp only; omega) q0
      replace q1 := Kept.cellOut kk (by dsimp only; omega) q1
      replace q2 := Kept.cellOut kk (by dsimp only; omega) q2
      replace y0 := Kept.cellOut kk (by dsimp only; omega) y0
      replace y1 := Kept.cellOut kk (by dsimp only; omega) y1
      have z12 := kk.size
      clear kk hd hr gW hxx2
      go_wp2_with fail
      refine (dof_spec s5 (x2) _ r5).mono ?_
      rintro e w13 ⟨v9, rfl, r9, kk⟩
      have gr := ansDE_range (wokB s5 zs && l4eB (x2)) (wval s5 zs) (x2)
      replace D := D.keptR kk
      replace r5 := r5.kept kk (by omega)
      replace qf0 := Kept.looseOut' kk (by dsimp only; omega) (World.block_lt_of_cell? _ _ q0) qf0
      replace qf1 := Kept.looseOut' kk (by dsimp only; omega) (World.block_lt_of_cell? _ _ q1) qf1
      replace qf2 := Kept.looseOut' kk (by dsimp only; omega) (World.block_lt_of_cell? _ _ q2) qf2
      replace yf0 := Kept.looseOut' kk (by dsimp only; omega) (World.block_lt_of_cell? _ _ y0) yf0
      replace yf1 := Kept.looseOut' kk (by dsimp only; omega) (World.block_lt_of_cell? _ _ y1) yf1
      replace q0 := Kept.cellOut kk (by dsimp only; omega) q0
      replace q1 := Kept.cellOut kk (by dsimp only; omega) q1
      replace q2 := Kept.cellOut kk (by dsimp only; omega) q2
      replace y0 := Kept.cellOut kk (by dsimp only; omega) y0
      replace y1 := Kept.cellOut kk (by dsimp only; omega) y1
      have z14 := kk.size
      clear kk
      generalize ansDS (wokB s5 zs && l4eB (x2)) (wval s5 zs) (x2) = GS at *
      generalize ansDL (wokB s5 zs && l4eB (x2)) (wval s5 zs) (x2) = GL at *
      generalize ansDE (wokB s5 zs && l4eB (x2)) (wval s5 zs) (x2) = GE at *
      generalize ansDB (wokB s5 zs && l4eB (x2)) (wval s5 zs) (x2) = GB at *
      obtain ⟨a9, c9, hv⟩ := Row.form' r9
      subst hv
      cases GB
      · have kk := (Kept.refl 0 0 w13).alloc (.cells #[.bool GS, .slice a9 GL.length c9, .int .i64 GE] 30)
        have u0 : (w13.alloc (.cells #[.bool GS, .slice a9 GL.length c9, .int .i64 GE] 30)).cell? ⟨w13.heap.size, 0, none⟩ = some (.bool GS) := new_cell2 _ _ _ _ _ _ rfl rfl
        have u1 : (w13.alloc (.cells #[.bool GS, .slice a9 GL.length c9, .int .i64 GE] 30)).cell? ⟨w13.heap.size, 1, none⟩ = some (.slice a9 GL.length c9) := new_cell2 _ _ _ _ _ _ rfl rfl
        have u2 : (w13.alloc (.cells #[.bool GS, .slice a9 GL.length c9, .int .i64 GE] 30)).cell? ⟨w13.heap.size, 2, none⟩ = some (.int .i64 GE) := new_cell2 _ _ _ _ _ _ rfl rfl
        replace D := D.keptR kk
        replace r5 := r5.kept kk (by omega)
        replace r9 := r9.kept kk (by omega)
        replace qf0 := Kept.looseOut' kk (by dsimp only; omega) (World.block_lt_of_cell? _ _ q0) qf0
        replace qf1 := Kept.looseOut' kk (by dsimp only; omega) (World.block_lt_of_cell? _ _ q1) qf1
        replace qf2 := Kept.looseOut' kk (by dsimp only; omega) (World.block_lt_of_cell? _ _ q2) qf2
        replace yf0 := Kept.looseOut' kk (by dsimp only; omega) (World.block_lt_of_cell? _ _ y0) yf0
        replace yf1 := Kept.looseOut' kk (by dsimp only; omega) (World.block_lt_of_cell? _ _ y1) yf1
        replace q0 := Kept.cellOut kk (by dsimp only; omega) q0
        replace q1 := Kept.cellOut kk (by dsimp only; omega) q1
        replace q2 := Kept.cellOut kk (by dsimp only; omega) q2
        replace y0 := Kept.cellOut kk (by dsimp only; omega) y0
        replace y1 := Kept.cellOut kk (by dsimp only; omega) y1
        have z15 := kk.size
        clear kk
        have DD := hide (((D.set (p := ⟨w.heap.size, 0, none⟩) hg (Nat.le_refl _) (.bool false)).set (p := ⟨w.heap.size, 1, none⟩) hg (Nat.le_refl _) (.slice none 0 0)).set (p := ⟨w.heap.size, 2, none⟩) hg (Nat.le_refl _) (.int .i64 0))
        clear r5 r9 D 
        go_wp2_with fail
        exact bodyPost_ret (v := .agg #[.bool false, .slice none 0 0, .int .i64 0]) (by simp [results, Tryd.results50, go_sem, q0, q1, q2]) rfl ⟨_, _, _, [], rfl, Row.nil _ _ _ _ _, by omega, by omega, unhide DD⟩
      · have kk := (Kept.refl 0 0 w13).alloc (.cells #[.bool GS, .slice a9 GL.length c9, .int .i64 GE] 30)
        have u0 : (w13.alloc (.cells #[.bool GS, .slice a9 GL.length c9, .int .i64 GE] 30)).cell? ⟨w13.heap.size, 0, none⟩ = some (.bool GS) := new_cell2 _ _ _ _ _ _ rfl rfl
        have u1 : (w13.alloc (.cells #[.bool GS, .slice a9 GL.length c9, .int .i64 GE] 30)).cell? ⟨w13.heap.size, 1, none⟩ = some (.slice a9 GL.length c9) := new_cell2 _ _ _ _ _ _ rfl rfl
        have u2 : (w13.alloc (.cells #[.bool GS, .slice a9 GL.length c9, .int .i64 GE] 30)).cell? ⟨w13.heap.size, 2, none⟩ = some (.int .i64 GE) := new_cell2 _ _ _ _ _ _ rfl rfl
        replace D := D.keptR kk
        replace r5 := r5.kept kk (by omega)
        replace r9 := r9.kept kk (by omega)
        replace qf0 := Kept.looseOut' kk (by dsimp only; omega) (World.block_lt_of_cell? _ _ q0) qf0
        replace qf1 := Kept.looseOut' kk (by dsimp only; omega) (World.block_lt_of_cell? _ _ q1) qf1
        replace qf2 := Kept.looseOut' kk (by dsimp only; omega) (World.block_lt_of_cell? _ _ q2) qf2
        replace yf0 := Kept.looseOut' kk (by dsimp only; omega) (World.block_lt_of_cell? _ _ y0) yf0
        replace yf1 := Kept.looseOut' kk (by dsimp only; omega) (World.block_lt_of_cell? _ _ y1) yf1
        replace q0 := Kept.cellOut kk (by dsimp only; omega) q0
        replace q1 := Kept.cellOut kk (by dsimp only; omega) q1
        replace q2 := Kept.cellOut kk (by dsimp only; omega) q2
        replace y0 := Kept.cellOut kk (by dsimp only; omega) y0
        replace y1 := Kept.cellOut kk (by dsimp only; omega) y1
        have z15 := kk.size
        clear kk
        have R := hide ((((r9.set_other (p := ⟨w.heap.size, 0, none⟩) (.inl (by dsimp only; omega)) (.bool GS)).set_other (p := ⟨w.heap.size, 1, none⟩) (.inl (by dsimp only; omega)) (.slice a9 GL.length c9)).set_other (p := ⟨w.heap.size, 2, none⟩) (.inl (by dsimp only; omega)) (.int .i64 GE)).tight.wider (lo' := w.heap.size) (by omega) (Nat.le_refl _))
        have DD := hide (((D.set (p := ⟨w.heap.size, 0, none⟩) hg (Nat.le_refl _) (.bool GS)).set (p := ⟨w.heap.size, 1, none⟩) hg (Nat.le_refl _) (.slice a9 GL.length c9)).set (p := ⟨w.heap.size, 2, none⟩) hg (Nat.le_refl _) (.int .i64 GE))
        clear r5 r9 D 
        go_wp2_with fail
        exact bodyPost_ret (v := .agg #[.bool GS, .slice a9 GL.length c9, .int .i64 GE]) (by simp [results, Tryd.results50, go_sem, q0, q1, q2]) rfl ⟨_, _, _, _, rfl, unhide R, by omega, by omega, unhide DD⟩
  · go_wp2_with fail
    refine (l1Below_any g lo _ D.1 40).mono ?_
    rintro e w7 ⟨n, rfl, -, hbn, hd⟩
    have kk := hd.kept
    replace D := D.trans hd.drawn
    replace hbn := hbn (by decide)
    replace r5 := r5.kept kk (by omega)
    replace qf0 := Kept.looseOut' kk (by dsimp only; omega) (World.block_lt_of_cell? _ _ q0) qf0
    replace qf1 := Kept.looseOut' kk (by dsimp only; omega) (World.block_lt_of_cell? _ _ q1) qf1
    replace qf2 := Kept.looseOut' kk (by dsimp only; omega) (World.block_lt_of_cell? _ _ q2) qf2
    replace yf0 := Kept.looseOut' kk (by dsimp only; omega) (World.block_lt_of_cell? _ _ y0) yf0
    replace yf1 := Kept.looseOut' kk (by dsimp only; omega) (World.block_lt_of_cell? _ _ y1) yf1
    replace q0 := Kept.cellOut kk (by dsimp only; omega) q0
    replace q1 := Kept.cellOut kk (by dsimp only; omega) q1
    replace q2 := Kept.cellOut kk (by dsimp only; omega) q2
    replace y0 := Kept.cellOut kk (by dsimp only; omega) y0
    replace y1 := Kept.cellOut kk (by dsimp only; omega) y1
    have z8 := kk.size
    clear kk hd
    have hwn : IntKind.i64.wrap (n - 20) = n - 20 := w64 _ (by omega) (by omega)
    go_wp2_with fail
    refine (of3_spec (n - 20) (by omega) (by omega) _).mono ?_
    rintro e w9 ⟨v6, rfl, r6, kk⟩
    replace D := D.keptR kk
    replace r5 := r5.kept kk (by omega)
    replace qf0 := Kept.looseOut' kk (by dsimp only; omega) (World.block_lt_of_cell? _ _ q0) qf0
    replace qf1 := Kept.looseOut' kk (by dsimp only; omega) (World.block_lt_of_cell? _ _ q1) qf1
    replace qf2 := Kept.looseOut' kk (by dsimp only; omega) (World.block_lt_of_cell? _ _ q2) qf2
    replace yf0 := Kept.looseOut' kk (by dsimp only; omega) (World.block_lt_of_cell? _ _ y0) yf0
    replace yf1 := Kept.looseOut' kk (by dsimp only; omega) (World.block_lt_of_cell? _ _ y1) yf1
    replace q0 := Kept.cellOut kk (by dsimp only; omega) q0
    replace q1 := Kept.cellOut kk (by dsimp only; omega) q1
    replace q2 := Kept.cellOut kk (by dsimp only; omega) q2
    replace y0 := Kept.cellOut kk (by dsimp only; omega) y0
    replace y1 := Kept.cellOut kk (by dsimp only; omega) y1
    have z10 := kk.size
    clear kk
    generalize wlm (n - 20) = zn at *
    generalize wsg (n - 20) = sn at *
    obtain ⟨a6, c6, hv⟩ := Row.form' r6
    subst hv
    go_wp2_with fail
    replace D := D.set (p := ⟨w1.heap.size, 0, none⟩) (by dsimp only; omega) (by dsimp only; omega) (.bool sn)
    replace r5 := r5.set_other (p := ⟨w1.heap.size, 0, none⟩) (by dsimp only; omega) (.bool sn)
    replace r6 := r6.set_other (p := ⟨w1.heap.size, 0, none⟩) (by dsimp only; omega) (.bool sn)
    replace q0 := cell_aside (.bool sn) (r := ⟨w1.heap.size, 0, none⟩) (by dsimp only; omega) q0
    replace q1 := cell_aside (.bool sn) (r := ⟨w1.heap.size, 0, none⟩) (by dsimp only; omega) q1
    replace q2 := cell_aside (.bool sn) (r := ⟨w1.heap.size, 0, none⟩) (by dsimp only; omega) q2
    replace y0 : (w9.setCell ⟨w1.heap.size, 0, none⟩ (.bool sn)).cell? ⟨w1.heap.size, 0, none⟩ = some (.bool sn) := cell_on _ _ _ _ _ y0
    replace y1 := cell_off _ _ _ 0 (.bool sn) _ y1 (by decide)
    replace qf0 : (w9.setCell ⟨w1.heap.size, 0, none⟩ (.bool sn)).frozen? _ = false := (frozen_set _ _ _ _ _).trans qf0
    replace qf1 : (w9.setCell ⟨w1.heap.size, 0, none⟩ (.bool sn)).frozen? _ = false := (frozen_set _ _ _ _ _).trans qf1
    replace qf2 : (w9.setCell ⟨w1.heap.size, 0, none⟩ (.bool sn)).frozen? _ = false := (frozen_set _ _ _ _ _).trans qf2
    replace yf0 : (w9.setCell ⟨w1.heap.size, 0, none⟩ (.bool sn)).frozen? _ = false := (frozen_set _ _ _ _ _).trans yf0
    replace yf1 : (w9.setCell ⟨w1.heap.size, 0, none⟩ (.bool sn)).frozen? _ = false := (frozen_set _ _ _ _ _).trans yf1
    have z11 : (w9.setCell ⟨w1.heap.size, 0, none⟩ (.bool sn)).heap.size = w9.heap.size := size_set _ _ _
    replace z11 := Nat.le_of_eq z11.symm
    replace D := D.set (p := ⟨w1.heap.size, 1, none⟩) (by dsimp only; omega) (by dsimp only; omega) (.slice a6 zn.length c6)
    replace r5 := r5.set_other (p := ⟨w1.heap.size, 1, none⟩) (by dsimp only; omega) (.slice a6 zn.length c6)
    replace r6 := r6.set_other (p := ⟨w1.heap.size, 1, none⟩) (by dsimp only; omega) (.slice a6 zn.length c6)
    replace q0 := cell_aside (.slice a6 zn.length c6) (r := ⟨w1.heap.size, 1, none⟩) (by dsimp only; omega) q0
    replace q1 := cell_aside (.slice a6 zn.length c6) (r := ⟨w1.heap.size, 1, none⟩) (by dsimp only; omega) q1
    replace q2 := cell_aside (.slice a6 zn.length c6) (r := ⟨w1.heap.size, 1, none⟩) (by dsimp only; omega) q2
    replace y0 := cell_off _ _ _ 1 (.slice a6 zn.length c6) _ y0 (by decide)
    replace y1 : ((w9.setCell ⟨w1.heap.size, 0, none⟩ (.bool sn)).setCell ⟨w1.heap.size, 1, none⟩ (.slice a6 zn.length c6)).cell? ⟨w1.heap.size, 1, none⟩ = some (.slice a6 zn.length c6) := cell_on _ _ _ _ _ y1
    replace qf0 : ((w9.setCell ⟨w1.heap.size, 0, none⟩ (.bool sn)).setCell ⟨w1.heap.size, 1, none⟩ (.slice a6 zn.length c6)).frozen? _ = false := (frozen_set _ _ _ _ _).trans qf0
    replace qf1 : ((w9.setCell ⟨w1.heap.size, 0, none⟩ (.bool sn)).setCell ⟨w1.heap.size, 1, none⟩ (.slice a6 zn.length c6)).frozen? _ = false := (frozen_set _ _ _ _ _).trans qf1
    replace qf2 : ((w9.setCell ⟨w1.heap.size, 0, none⟩ (.bool sn)).setCell ⟨w1.heap.size, 1, none⟩ (.slice a6 zn.length c6)).frozen? _ = false := (frozen_set _ _ _ _ _).trans qf2
    replace yf0 : ((w9.setCell ⟨w1.heap.size, 0, none⟩ (.bool sn)).setCell ⟨w1.heap.size, 1, none⟩ (.slice a6 zn.length c6)).frozen? _ = false := (frozen_set _ _ _ _ _).trans yf0
    replace yf1 : ((w9.setCell ⟨w1.heap.size, 0, none⟩ (.bool sn)).setCell ⟨w1.heap.size, 1, none⟩ (.slice a6 zn.length c6)).frozen? _ = false := (frozen_set _ _ _ _ _).trans yf1
    have z12 : ((w9.setCell ⟨w1.heap.size, 0, none⟩ (.bool sn)).setCell ⟨w1.heap.size, 1, none⟩ (.slice a6 zn.length c6)).heap.size = (w9.setCell ⟨w1.heap.size, 0, none⟩ (.bool sn)).heap.size := size_set _ _ _
    replace z12 := Nat.le_of_eq z12.symm
    generalize ((w9.setCell ⟨w1.heap.size, 0, none⟩ (.bool sn)).setCell ⟨w1.heap.size, 1, none⟩ (.slice a6 zn.length c6)) = w13 at *
    refine (l1Below_any g lo _ D.1 24).mono ?_
    rintro e w14 ⟨x, rfl, -, hbx, hd⟩
    have kk := hd.kept
    replace D := D.trans hd.drawn
    replace hbx := hbx (by decide)
    replace r5 := r5.kept kk (by omega)
    replace r6 := r6.kept kk (by omega)
    replace qf0 := Kept.looseOut' kk (by dsimp only; omega) (World.block_lt_of_cell? _ _ q0) qf0
    replace qf1 := Kept.looseOut' kk (by dsimp only; omega) (World.block_lt_of_cell? _ _ q1) qf1
    replace qf2 := Kept.looseOut' kk (by dsimp only; omega) (World.block_lt_of_cell? _ _ q2) qf2
    replace yf0 := Kept.looseOut' kk (by dsimp only; omega) (World.block_lt_of_cell? _ _ y0) yf0
    replace yf1 := Kept.looseOut' kk (by dsimp only; omega) (World.block_lt_of_cell? _ _ y1) yf1
    replace q0 := Kept.cellOut kk (by dsimp only; omega) q0
    replace q1 := Kept.cellOut kk (by dsimp only; omega) q1
    replace q2 := Kept.cellOut kk (by dsimp only; omega) q2
    replace y0 := Kept.cellOut kk (by dsimp only; omega) y0
    replace y1 := Kept.cellOut kk (by dsimp only; omega) y1
    have z15 := kk.size
    clear kk hd
    have hwx : IntKind.i64.wrap (x - 12) = x - 12 := w64 _ (by omega) (by omega)
    go_wp2_with fail
    refine (l1Once_any g lo _ D.1 6).mono ?_
    rintro e w16 ⟨b3, rfl, hd⟩
    have kk := hd.kept
    replace D := D.trans hd.drawn
    replace r5 := r5.kept kk (by omega)
    replace r6 := r6.kept kk (by omega)
    replace qf0 := Kept.looseOut' kk (by dsimp only; omega) (World.block_lt_of_cell? _ _ q0) qf0
    replace qf1 := Kept.looseOut' kk (by dsimp only; omega) (World.block_lt_of_cell? _ _ q1) qf1
    replace qf2 := Kept.looseOut' kk (by dsimp only; omega) (World.block_lt_of_cell? _ _ q2) qf2
    replace yf0 := Kept.looseOut' kk (by dsimp only; omega) (World.block_lt_of_cell? _ _ y0) yf0
    replace yf1 := Kept.looseOut' kk (by dsimp only; omega) (World.block_lt_of_cell? _ _ y1) yf1
    replace q0 := Kept.cellOut kk (by dsimp only; omega) q0
    replace q1 := Kept.cellOut kk (by dsimp only; omega) q1
    replace q2 := Kept.cellOut kk (by dsimp only; omega) q2
    replace y0 := Kept.cellOut kk (by dsimp only; omega) y0
    replace y1 := Kept.cellOut kk (by dsimp only; omega) y1
    have z17 := kk.size
    clear kk hd
    cases b3
    · go_wp2_with fail
      refine (dof_spec sn (x - 12) _ r6).mono ?_
      rintro e w18 ⟨v9, rfl, r9, kk⟩
      have gr := ansDE_range (wokB sn zn && l4eB (x - 12)) (wval sn zn) (x - 12)
      replace D := D.keptR kk
      replace r5 := r5.kept kk (by omega)
      replace r6 := r6.kept kk (by omega)
      replace qf0 := Kept.looseOut' kk (by dsimp only; omega) (World.block_lt_of_cell? _ _ q0) qf0
      replace qf1 := Kept.looseOut' kk (by dsimp only; omega) (World.block_lt_of_cell? _ _ q1) qf1
      replace qf2 := Kept.looseOut' kk (by dsimp only; omega) (World.block_lt_of_cell? _ _ q2) qf2
      replace yf0 := Kept.looseOut' kk (by dsimp only; omega) (World.block_lt_of_cell? _ _ y0) yf0
      replace yf1 := Kept.looseOut' kk (by dsimp only; omega) (World.block_lt_of_cell? _ _ y1) yf1
      replace q0 := Kept.cellOut kk (by dsimp only; omega) q0
      replace q1 := Kept.cellOut kk (by dsimp only; omega) q1
      replace q2 := Kept.cellOut kk (by dsimp only; omega) q2
      replace y0 := Kept.cellOut kk (by dsimp only; omega) y0
      replace y1 := Kept.cellOut kk (by dsimp only; omega) y1
      have z19 := kk.size
      clear kk
      generalize ansDS (wokB sn zn && l4eB (x - 12)) (wval sn zn) (x - 12) = GS at *
      generalize ansDL (wokB sn zn && l4eB (x - 12)) (wval sn zn) (x - 12) = GL at *
      generalize ansDE (wokB sn zn && l4eB (x - 12)) (wval sn zn) (x - 12) = GE at *
      generalize ansDB (wokB sn zn && l4eB (x - 12)) (wval sn zn) (x - 12) = GB at *
      obtain ⟨a9, c9, hv⟩ := Row.form' r9
      subst hv
      cases GB
      · have kk := (Kept.refl 0 0 w18).alloc (.cells #[.bool GS, .slice a9 GL.length c9, .int .i64 GE] 30)
        have u0 : (w18.alloc (.cells #[.bool GS, .slice a9 GL.length c9, .int .i64 GE] 30)).cell? ⟨w18.heap.size, 0, none⟩ = some (.bool GS) := new_cell2 _ _ _ _ _ _ rfl rfl
        have u1 : (w18.alloc (.cells #[.bool GS, .slice a9 GL.length c9, .int .i64 GE] 30)).cell? ⟨w18.heap.size, 1, none⟩ = some (.slice a9 GL.length c9) := new_cell2 _ _ _ _ _ _ rfl rfl
        have u2 : (w18.alloc (.cells #[.bool GS, .slice a9 GL.length c9, .int .i64 GE] 30)).cell? ⟨w18.heap.size, 2, none⟩ = some (.int .i64 GE) := new_cell2 _ _ _ _ _ _ rfl rfl
        replace D := D.keptR kk
        replace r5 := r5.kept kk (by omega)
        replace r6 := r6.kept kk (by omega)
        replace r9 := r9.kept kk (by omega)
        replace qf0 := Kept.looseOut' kk (by dsimp only; omega) (World.block_lt_of_cell? _ _ q0) qf0
        replace qf1 := Kept.looseOut' kk (by dsimp only; omega) (World.block_lt_of_cell? _ _ q1) qf1
        replace qf2 := Kept.looseOut' kk (by dsimp only; omega) (World.block_lt_of_cell? _ _ q2) qf2
        replace yf0 := Kept.looseOut' kk (by dsimp only; omega) (World.block_lt_of_cell? _ _ y0) yf0
        replace yf1 := Kept.looseOut' kk (by dsimp only; omega) (World.block_lt_of_cell? _ _ y1) yf1
        replace q0 := Kept.cellOut kk (by dsimp only; omega) q0
        replace q1 := Kept.cellOut kk (by dsimp only; omega) q1
        replace q2 := Kept.cellOut kk (by dsimp only; omega) q2
        replace y0 := Kept.cellOut kk (by dsimp only; omega) y0
        replace y1 := Kept.cellOut kk (by dsimp only; omega) y1
        have z20 := kk.size
        clear kk
        have DD := hide (((D.set (p := ⟨w.heap.size, 0, none⟩) hg (Nat.le_refl _) (.bool false)).set (p := ⟨w.heap.size, 1, none⟩) hg (Nat.le_refl _) (.slice none 0 0)).set (p := ⟨w.heap.size, 2, none⟩) hg (Nat.le_refl _) (.int .i64 0))
        clear r5 r6 r9 D 
        go_wp2_with fail
        exact bodyPost_ret (v := .agg #[.bool false, .slice none 0 0, .int .i64 0]) (by simp [results, Tryd.results50, go_sem, q0, q1, q2]) rfl ⟨_, _, _, [], rfl, Row.nil _ _ _ _ _, by omega, by omega, unhide DD⟩
      · have kk := (Kept.refl 0 0 w18).alloc (.cells #[.bool GS, .slice a9 GL.length c9, .int .i64 GE] 30)
        have u0 : (w18.alloc (.cells #[.bool GS, .slice a9 GL.length c9, .int .i64 GE] 30)).cell? ⟨w18.heap.size, 0, none⟩ = some (.bool GS) := new_cell2 _ _ _ _ _ _ rfl rfl
        have u1 : (w18.alloc (.cells #[.bool GS, .slice a9 GL.length c9, .int .i64 GE] 30)).cell? ⟨w18.heap.size, 1, none⟩ = some (.slice a9 GL.length c9) := new_cell2 _ _ _ _ _ _ rfl rfl
        have u2 : (w18.alloc (.cells #[.bool GS, .slice a9 GL.length c9, .int .i64 GE] 30)).cell? ⟨w18.heap.size, 2, none⟩ = some (.int .i64 GE) := new_cell2 _ _ _ _ _ _ rfl rfl
        replace D := D.keptR kk
        replace r5 := r5.kept kk (by omega)
        replace r6 := r6.kept kk (by omega)
        replace r9 := r9.kept kk (by omega)
        replace qf0 := Kept.looseOut' kk (by dsimp only; omega) (World.block_lt_of_cell? _ _ q0) qf0
        replace qf1 := Kept.looseOut' kk (by dsimp only; omega) (World.block_lt_of_cell? _ _ q1) qf1
        replace qf2 := Kept.looseOut' kk (by dsimp only; omega) (World.block_lt_of_cell? _ _ q2) qf2
        replace yf0 := Kept.looseOut' kk (by dsimp only; omega) (World.block_lt_of_cell? _ _ y0) yf0
        replace yf1 := Kept.looseOut' kk (by dsimp only; omega) (World.block_lt_of_cell? _ _ y1) yf1
        replace q0 := Kept.cellOut kk (by dsimp only; omega) q0
        replace q1 := Kept.cellOut kk (by dsimp only; omega) q1
        replace q2 := Kept.cellOut kk (by dsimp only; omega) q2
        replace y0 := Kept.cellOut kk (by dsimp only; omega) y0
        replace y1 := Kept.cellOut kk (by dsimp only; omega) y1
        have z20 := kk.size
        clear kk
        have R := hide ((((r9.set_other (p := ⟨w.heap.size, 0, none⟩) (.inl (by dsimp only; omega)) (.bool GS)).set_other (p := ⟨w.heap.size, 1, none⟩) (.inl (by dsimp only; omega)) (.slice a9 GL.length c9)).set_other (p := ⟨w.heap.size, 2, none⟩) (.inl (by dsimp only; omega)) (.int .i64 GE)).tight.wider (lo' := w.heap.size) (by omega) (Nat.le_refl _))
        have DD := hide (((D.set (p := ⟨w.heap.size, 0, none⟩) hg (Nat.le_refl _) (.bool GS)).set (p := ⟨w.heap.size, 1, none⟩) hg (Nat.le_refl _) (.slice a9 GL.length c9)).set (p := ⟨w.heap.size, 2, none⟩) hg (Nat.le_refl _) (.int .i64 GE))
        clear r5 r6 r9 D 
        go_wp2_with fail
        exact bodyPost_ret (v := .agg #[.bool GS, .slice a9 GL.length c9, .int .i64 GE]) (by simp [results, Tryd.results50, go_sem, q0, q1, q2]) rfl ⟨_, _, _, _, rfl, unhide R, by omega, by omega, unhide DD⟩
    · go_wp2_with fail
      have hr := Row.lit .i64 w16 3 [0, -60, 60, -1074, 900, -2990, 2990, -100] (by simp [maxLen])
      have gW : g < w16.heap.size := D.1.1
      refine (l1PickInt_any g lo _ (D.1.kept ((Kept.refl 0 0 w16).alloc _) (by omega)) hr (by simp) (by omega)).mono ?_
      rintro e w18 ⟨x2, rfl, hxx2, hd⟩
      have hbx2 : -2990 ≤ x2 ∧ x2 ≤ 2990 := by
        simp only [List.mem_cons, List.not_mem_nil, or_false] at hxx2
        omega
      have kk := (((Kept.refl 0 0 w16).alloc (.cells ([0, -60, 60, -1074, 900, -2990, 2990, -100].map (Value.int .i64)).toArray 3)).any (lo := g) (hi := g + 1)).trans hd.2.1
      replace D : Drawn g lo w w18 := ⟨hd.1, D.2.trans kk⟩
      replace r5 := r5.kept kk (by omega)
      replace r6 := r6.kept kk (by omega)
      replace qf0 := Kept.looseOut' kk (by dsimp only; omega) (World.block_lt_of_cell? _ _ q0) qf0
      replace qf1 := Kept.looseOut' kk (by dsimp only; omega) (World.block_lt_of_cell? _ _ q1) qf1
      replace qf2 := Kept.looseOut' kk (by dsimp only; omega) (World.block_lt_of_cell? _ _ q2) qf2
      replace yf0 := Kept.looseOut' kk (by dsimp only; omega) (World.block_lt_of_cell? _ _ y0) yf0
      replace yf1 := Kept.looseOut' kk (by dsimp only; omega) (World.block_lt_of_cell? _ _ y1) yf1
      replace q0 := Kept.cellOut kk (by dsimp only; omega) q0
      replace q1 := Kept.cellOut kk (by dsimp only; omega) q1
      replace q2 := Kept.cellOut kk (by dsimp only; omega) q2
      replace y0 := Kept.cellOut kk (by dsimp only; omega) y0
      replace y1 := Kept.cellOut kk (by dsimp only; omega) y1
      have z19 := kk.size
      clear kk hd hr gW hxx2
      go_wp2_with fail
      refine (dof_spec sn (x2) _ r6).mono ?_
      rintro e w20 ⟨v9, rfl, r9, kk⟩
      have gr := ansDE_range (wokB sn zn && l4eB (x2)) (wval sn zn) (x2)
      replace D := D.keptR kk
      replace r5 := r5.kept kk (by omega)
      replace r6 := r6.kept kk (by omega)
      replace qf0 := Kept.looseOut' kk (by dsimp only; omega) (World.block_lt_of_cell? _ _ q0) qf0
      replace qf1 := Kept.looseOut' kk (by dsimp only; omega) (World.block_lt_of_cell? _ _ q1) qf1
      replace qf2 := Kept.looseOut' kk (by dsimp only; omega) (World.block_lt_of_cell? _ _ q2) qf2
      replace yf0 := Kept.looseOut' kk (by dsimp only; omega) (World.block_lt_of_cell? _ _ y0) yf0
      replace yf1 := Kept.looseOut' kk (by dsimp only; omega) (World.block_lt_of_cell? _ _ y1) yf1
      replace q0 := Kept.cellOut kk (by dsimp only; omega) q0
      replace q1 := Kept.cellOut kk (by dsimp only; omega) q1
      replace q2 := Kept.cellOut kk (by dsimp only; omega) q2
      replace y0 := Kept.cellOut kk (by dsimp only; omega) y0
      replace y1 := Kept.cellOut kk (by dsimp only; omega) y1
      have z21 := kk.size
      clear kk
      generalize ansDS (wokB sn zn && l4eB (x2)) (wval sn zn) (x2) = GS at *
      generalize ansDL (wokB sn zn && l4eB (x2)) (wval sn zn) (x2) = GL at *
      generalize ansDE (wokB sn zn && l4eB (x2)) (wval sn zn) (x2) = GE at *
      generalize ansDB (wokB sn zn && l4eB (x2)) (wval sn zn) (x2) = GB at *
      obtain ⟨a9, c9, hv⟩ := Row.form' r9
      subst hv
      cases GB
      · have kk := (Kept.refl 0 0 w20).alloc (.cells #[.bool GS, .slice a9 GL.length c9, .int .i64 GE] 30)
        have u0 : (w20.alloc (.cells #[.bool GS, .slice a9 GL.length c9, .int .i64 GE] 30)).cell? ⟨w20.heap.size, 0, none⟩ = some (.bool GS) := new_cell2 _ _ _ _ _ _ rfl rfl
        have u1 : (w20.alloc (.cells #[.bool GS, .slice a9 GL.length c9, .int .i64 GE] 30)).cell? ⟨w20.heap.size, 1, none⟩ = some (.slice a9 GL.length c9) := new_cell2 _ _ _ _ _ _ rfl rfl
        have u2 : (w20.alloc (.cells #[.bool GS, .slice a9 GL.length c9, .int .i64 GE] 30)).cell? ⟨w20.heap.size, 2, none⟩ = some (.int .i64 GE) := new_cell2 _ _ _ _ _ _ rfl rfl
        replace D := D.keptR kk
        replace r5 := r5.kept kk (by omega)
        replace r6 := r6.kept kk (by omega)
        replace r9 := r9.kept kk (by omega)
        replace qf0 := Kept.looseOut' kk (by dsimp only; omega) (World.block_lt_of_cell? _ _ q0) qf0
        replace qf1 := Kept.looseOut' kk (by dsimp only; omega) (World.block_lt_of_cell? _ _ q1) qf1
        replace qf2 := Kept.looseOut' kk (by dsimp only; omega) (World.block_lt_of_cell? _ _ q2) qf2
        replace yf0 := Kept.looseOut' kk (by dsimp only; omega) (World.block_lt_of_cell? _ _ y0) yf0
        replace yf1 := Kept.looseOut' kk (by dsimp only; omega) (World.block_lt_of_cell? _ _ y1) yf1
        replace q0 := Kept.cellOut kk (by dsimp only; omega) q0
        replace q1 := Kept.cellOut kk (by dsimp only; omega) q1
        replace q2 := Kept.cellOut kk (by dsimp only; omega) q2
        replace y0 := Kept.cellOut kk (by dsimp only; omega) y0
        replace y1 := Kept.cellOut kk (by dsimp only; omega) y1
        have z22 := kk.size
        clear kk
        have DD := hide (((D.set (p := ⟨w.heap.size, 0, none⟩) hg (Nat.le_refl _) (.bool false)).set (p := ⟨w.heap.size, 1, none⟩) hg (Nat.le_refl _) (.slice none 0 0)).set (p := ⟨w.heap.size, 2, none⟩) hg (Nat.le_refl _) (.int .i64 0))
        clear r5 r6 r9 D 
        go_wp2_with fail
        exact bodyPost_ret (v := .agg #[.bool false, .slice none 0 0, .int .i64 0]) (by simp [results, Tryd.results50, go_sem, q0, q1, q2]) rfl ⟨_, _, _, [], rfl, Row.nil _ _ _ _ _, by omega, by omega, unhide DD⟩
      · have kk := (Kept.refl 0 0 w20).alloc (.cells #[.bool GS, .slice a9 GL.length c9, .int .i64 GE] 30)
        have u0 : (w20.alloc (.cells #[.bool GS, .slice a9 GL.length c9, .int .i64 GE] 30)).cell? ⟨w20.heap.size, 0, none⟩ = some (.bool GS) := new_cell2 _ _ _ _ _ _ rfl rfl
        have u1 : (w20.alloc (.cells #[.bool GS, .slice a9 GL.length c9, .int .i64 GE] 30)).cell? ⟨w20.heap.size, 1, none⟩ = some (.slice a9 GL.length c9) := new_cell2 _ _ _ _ _ _ rfl rfl
        have u2 : (w20.alloc (.cells #[.bool GS, .slice a9 GL.length c9, .int .i64 GE] 30)).cell? ⟨w20.heap.size, 2, none⟩ = some (.int .i64 GE) := new_cell2 _ _ _ _ _ _ rfl rfl
        replace D := D.keptR kk
        replace r5 := r5.kept kk (by omega)
        replace r6 := r6.kept kk (by omega)
        replace r9 := r9.kept kk (by omega)
        replace qf0 := Kept.looseOut' kk (by dsimp only; omega) (World.block_lt_of_cell? _ _ q0) qf0
        replace qf1 := Kept.looseOut' kk (by dsimp only; omega) (World.block_lt_of_cell? _ _ q1) qf1
        replace qf2 := Kept.looseOut' kk (by dsimp only; omega) (World.block_lt_of_cell? _ _ q2) qf2
        replace yf0 := Kept.looseOut' kk (by dsimp only; omega) (World.block_lt_of_cell? _ _ y0) yf0
        replace yf1 := Kept.looseOut' kk (by dsimp only; omega) (World.block_lt_of_cell? _ _ y1) yf1
        replace q0 := Kept.cellOut kk (by dsimp only; omega) q0
        replace q1 := Kept.cellOut kk (by dsimp only; omega) q1
        replace q2 := Kept.cellOut kk (by dsimp only; omega) q2
        replace y0 := Kept.cellOut kk (by dsimp only; omega) y0
        replace y1 := Kept.cellOut kk (by dsimp only; omega) y1
        have z22 := kk.size
        clear kk
        have R := hide ((((r9.set_other (p := ⟨w.heap.size, 0, none⟩) (.inl (by dsimp only; omega)) (.bool GS)).set_other (p := ⟨w.heap.size, 1, none⟩) (.inl (by dsimp only; omega)) (.slice a9 GL.length c9)).set_other (p := ⟨w.heap.size, 2, none⟩) (.inl (by dsimp only; omega)) (.int .i64 GE)).tight.wider (lo' := w.heap.size) (by omega) (Nat.le_refl _))
        have DD := hide (((D.set (p := ⟨w.heap.size, 0, none⟩) hg (Nat.le_refl _) (.bool GS)).set (p := ⟨w.heap.size, 1, none⟩) hg (Nat.le_refl _) (.slice a9 GL.length c9)).set (p := ⟨w.heap.size, 2, none⟩) hg (Nat.le_refl _) (.int .i64 GE))
        clear r5 r6 r9 D 
        go_wp2_with fail
        exact bodyPost_ret (v := .agg #[.bool GS, .slice a9 GL.length c9, .int .i64 GE]) (by simp [results, Tryd.results50, go_sem, q0, q1, q2]) rfl ⟨_, _, _, _, rfl, unhide R, by omega, by omega, unhide DD⟩

set_option maxHeartbeats 8000000 in
theorem bent4_any (g lo : Nat) (w : World) (c : Cur g lo w) :
    Calls Tryd.prog 31 #[.pointer (some ⟨g, 0, none⟩)] w fun e w' => ∃ v s x zs, e = .returned (.agg #[.bool s, v, .int .i64 x]) ∧ Row .i64 true w.heap.size w'.heap.size w' v zs ∧ -9223372036854775808 ≤ x ∧ x ≤ 9223372036854775807 ∧ Drawn g lo w w' := by
  have hg := c.1
  have D := Drawn.start c (.cells #[.bool false, .slice none 0 0, .int .i64 0] 30)
  have q0 : (w.alloc (.cells #[.bool false, .slice none 0 0, .int .i64 0] 30)).cell? ⟨w.heap.size, 0, none⟩ = some (.bool false) := new_cell2 _ _ _ _ _ _ rfl rfl
  have qf0 : (w.alloc (.cells #[.bool false, .slice none 0 0, .int .i64 0] 30)).frozen? ⟨w.heap.size, 0, none⟩ = false := new_loose2 _ _ _ _ _ rfl
  have q1 : (w.alloc (.cells #[.bool false, .slice none 0 0, .int .i64 0] 30)).cell? ⟨w.heap.size, 1, none⟩ = some (.slice none 0 0) := new_cell2 _ _ _ _ _ _ rfl rfl
  have qf1 : (w.alloc (.cells #[.bool false, .slice none 0 0, .int .i64 0] 30)).frozen? ⟨w.heap.size, 1, none⟩ = false := new_loose2 _ _ _ _ _ rfl
  have q2 : (w.alloc (.cells #[.bool false, .slice none 0 0, .int .i64 0] 30)).cell? ⟨w.heap.size, 2, none⟩ = some (.int .i64 0) := new_cell2 _ _ _ _ _ _ rfl rfl
  have qf2 : (w.alloc (.cells #[.bool false, .slice none 0 0, .int .i64 0] 30)).frozen? ⟨w.heap.size, 2, none⟩ = false := new_loose2 _ _ _ _ _ rfl
  have s0 : w.heap.size < (w.alloc (.cells #[.bool false, .slice none 0 0, .int .i64 0] 30)).heap.size := by simp
  clear c
  go_enter Tryd.func31, Tryd.ntmps31
  go_wp2_with fail
  generalize w.alloc (.cells #[.bool false, .slice none 0 0, .int .i64 0] 30) = W at *
  go_wp2_with fail
  refine (draw4_any g lo _ D.1).mono ?_
  rintro e w1 ⟨v5, s5, x5, zs, rfl, r5, f5, f6, hd⟩
  have kk := hd.2
  replace D := D.trans hd
  replace qf0 := Kept.looseOut' kk (by dsimp only; omega) (World.block_lt_of_cell? _ _ q0) qf0
  replace qf1 := Kept.looseOut' kk (by dsimp only; omega) (World.block_lt_of_cell? _ _ q1) qf1
  replace qf2 := Kept.looseOut' kk (by dsimp only; omega) (World.block_lt_of_cell? _ _ q2) qf2
  replace q0 := Kept.cellOut kk (by dsimp only; omega) q0
  replace q1 := Kept.cellOut kk (by dsimp only; omega) q1
  replace q2 := Kept.cellOut kk (by dsimp only; omega) q2
  have z2 := kk.size
  clear kk hd
  obtain ⟨a5, c5, hv⟩ := Row.form' r5
  subst hv
  have kk := (Kept.refl 0 0 w1).alloc (.cells #[.bool s5, .slice a5 zs.length c5, .int .i64 x5] 30)
  have y0 : (w1.alloc (.cells #[.bool s5, .slice a5 zs.length c5, .int .i64 x5] 30)).cell? ⟨w1.heap.size, 0, none⟩ = some (.bool s5) := new_cell2 _ _ _ _ _ _ rfl rfl
  have yf0 : (w1.alloc (.cells #[.bool s5, .slice a5 zs.length c5, .int .i64 x5] 30)).frozen? ⟨w1.heap.size, 0, none⟩ = false := new_loose2 _ _ _ _ _ rfl
  have y1 : (w1.alloc (.cells #[.bool s5, .slice a5 zs.length c5, .int .i64 x5] 30)).cell? ⟨w1.heap.size, 1, none⟩ = some (.slice a5 zs.length c5) := new_cell2 _ _ _ _ _ _ rfl rfl
  have yf1 : (w1.alloc (.cells #[.bool s5, .slice a5 zs.length c5, .int .i64 x5] 30)).frozen? ⟨w1.heap.size, 1, none⟩ = false := new_loose2 _ _ _ _ _ rfl
  have y2 : (w1.alloc (.cells #[.bool s5, .slice a5 zs.length c5, .int .i64 x5] 30)).cell? ⟨w1.heap.size, 2, none⟩ = some (.int .i64 x5) := new_cell2 _ _ _ _ _ _ rfl rfl
  have yf2 : (w1.alloc (.cells #[.bool s5, .slice a5 zs.length c5, .int .i64 x5] 30)).frozen? ⟨w1.heap.size, 2, none⟩ = false := new_loose2 _ _ _ _ _ rfl
  replace D := D.keptR kk
  have yy : w1.heap.size < (w1.alloc (.cells #[.bool s5, .slice a5 zs.length c5, .int .i64 x5] 30)).heap.size := by simp
  replace r5 := r5.kept kk (by omega)
  replace qf0 := Kept.looseOut' kk (by dsimp only; omega) (World.block_lt_of_cell? _ _ q0) qf0
  replace qf1 := Kept.looseOut' kk (by dsimp only; omega) (World.block_lt_of_cell? _ _ q1) qf1
  replace qf2 := Kept.looseOut' kk (by dsimp only; omega) (World.block_lt_of_cell? _ _ q2) qf2
  replace q0 := Kept.cellOut kk (by dsimp only; omega) q0
  replace q1 := Kept.cellOut kk (by dsimp only; omega) q1
  replace q2 := Kept.cellOut kk (by dsimp only; omega) q2
  have z3 := kk.size
  clear kk
  go_wp2_with fail
  generalize w1.alloc (.cells #[.bool s5, .slice a5 zs.length c5, .int .i64 x5] 30) = w4 at *
  refine (l1Once_any g lo _ D.1 9).mono ?_
  rintro e w5 ⟨b1, rfl, hd⟩
  have kk := hd.kept
  replace D := D.trans hd.drawn
  replace r5 := r5.kept kk (by omega)
  replace qf0 := Kept.looseOut' kk (by dsimp only; omega) (World.block_lt_of_cell? _ _ q0) qf0
  replace qf1 := Kept.looseOut' kk (by dsimp only; omega) (World.block_lt_of_cell? _ _ q1) qf1
  replace qf2 := Kept.looseOut' kk (by dsimp only; omega) (World.block_lt_of_cell? _ _ q2) qf2
  replace yf0 := Kept.looseOut' kk (by dsimp only; omega) (World.block_lt_of_cell? _ _ y0) yf0
  replace yf1 := Kept.looseOut' kk (by dsimp only; omega) (World.block_lt_of_cell? _ _ y1) yf1
  replace yf2 := Kept.looseOut' kk (by dsimp only; omega) (World.block_lt_of_cell? _ _ y2) yf2
  replace q0 := Kept.cellOut kk (by dsimp only; omega) q0
  replace q1 := Kept.cellOut kk (by dsimp only; omega) q1
  replace q2 := Kept.cellOut kk (by dsimp only; omega) q2
  replace y0 := Kept.cellOut kk (by dsimp only; omega) y0
  replace y1 := Kept.cellOut kk (by dsimp only; omega) y1
  replace y2 := Kept.cellOut kk (by dsimp only; omega) y2
  have z6 := kk.size
  clear kk hd
  cases b1
  · have R := hide ((((r5.set_other (p := ⟨w.heap.size, 0, none⟩) (.inl (by dsimp only; omega)) (.bool s5)).set_other (p := ⟨w.heap.size, 1, none⟩) (.inl (by dsimp only; omega)) (.slice a5 zs.length c5)).set_other (p := ⟨w.heap.size, 2, none⟩) (.inl (by dsimp only; omega)) (.int .i64 x5)).tight.wider (lo' := w.heap.size) (by omega) (Nat.le_refl _))
    have DD := hide (((D.set (p := ⟨w.heap.size, 0, none⟩) hg (Nat.le_refl _) (.bool s5)).set (p := ⟨w.heap.size, 1, none⟩) hg (Nat.le_refl _) (.slice a5 zs.length c5)).set (p := ⟨w.heap.size, 2, none⟩) hg (Nat.le_refl _) (.int .i64 x5))
    clear r5 D 
    go_wp2_with fail
    exact bodyPost_ret (v := .agg #[.bool s5, .slice a5 zs.length c5, .int .i64 x5]) (by simp [results, Tryd.results31, go_sem, q0, q1, q2]) rfl ⟨_, _, _, _, rfl, unhide R, by omega, by omega, unhide DD⟩
  go_wp2_with fail
  refine (l1Below_any g lo _ D.1 3).mono ?_
  rintro e w7 ⟨n, rfl, -, hbn, hd⟩
  have kk := hd.kept
  replace D := D.trans hd.drawn
  replace hbn := hbn (by decide)
  replace r5 := r5.kept kk (by omega)
  replace qf0 := Kept.looseOut' kk (by dsimp only; omega) (World.block_lt_of_cell? _ _ q0) qf0
  replace qf1 := Kept.looseOut' kk (by dsimp only; omega) (World.block_lt_of_cell? _ _ q1) qf1
  replace qf2 := Kept.looseOut' kk (by dsimp only; omega) (World.block_lt_of_cell? _ _ q2) qf2
  replace yf0 := Kept.looseOut' kk (by dsimp only; omega) (World.block_lt_of_cell? _ _ y0) yf0
  replace yf1 := Kept.looseOut' kk (by dsimp only; omega) (World.block_lt_of_cell? _ _ y1) yf1
  replace yf2 := Kept.looseOut' kk (by dsimp only; omega) (World.block_lt_of_cell? _ _ y2) yf2
  replace q0 := Kept.cellOut kk (by dsimp only; omega) q0
  replace q1 := Kept.cellOut kk (by dsimp only; omega) q1
  replace q2 := Kept.cellOut kk (by dsimp only; omega) q2
  replace y0 := Kept.cellOut kk (by dsimp only; omega) y0
  replace y1 := Kept.cellOut kk (by dsimp only; omega) y1
  replace y2 := Kept.cellOut kk (by dsimp only; omega) y2
  have z8 := kk.size
  clear kk hd
  obtain rfl | rfl | rfl : n = 0 ∨ n = 1 ∨ n = 2 := by omega
  · go_wp2_with fail
    have hr := Row.lit .i64 w7 3 [-3001, 3001, 3000, 4611686018427387904] (by simp [maxLen])
    have gW : g < w7.heap.size := D.1.1
    refine (l1PickInt_any g lo _ (D.1.kept ((Kept.refl 0 0 w7).alloc _) (by omega)) hr (by simp) (by omega)).mono ?_
    rintro e w9 ⟨x2, rfl, hxx2, hd⟩
    have hbx2 : -3001 ≤ x2 ∧ x2 ≤ 4611686018427387904 := by
      simp only [List.mem_cons, List.not_mem_nil, or_false] at hxx2
      omega
    have kk := (((Kept.refl 0 0 w7).alloc (.cells ([-3001, 3001, 3000, 4611686018427387904].map (Value.int .i64)).toArray 3)).any (lo := g) (hi := g + 1)).trans hd.2.1
    replace D : Drawn g lo w w9 := ⟨hd.1, D.2.trans kk⟩
    replace r5 := r5.kept kk (by omega)
    replace qf0 := Kept.looseOut' kk (by dsimp only; omega) (World.block_lt_of_cell? _ _ q0) qf0
    replace qf1 := Kept.looseOut' kk (by dsimp only; omega) (World.block_lt_of_cell? _ _ q1) qf1
    replace qf2 := Kept.looseOut' kk (by dsimp only; omega) (World.block_lt_of_cell? _ _ q2) qf2
    replace yf0 := Kept.looseOut' kk (by dsimp only; omega) (World.block_lt_of_cell? _ _ y0) yf0
    replace yf1 := Kept.looseOut' kk (by dsimp only; omega) (World.block_lt_of_cell? _ _ y1) yf1
    replace yf2 := Kept.looseOut' kk (by dsimp only; omega) (World.block_lt_of_cell? _ _ y2) yf2
    replace q0 := Kept.cellOut kk (by dsimp only; omega) q0
    replace q1 := Kept.cellOut kk (by dsimp only; omega) q1
    replace q2 := Kept.cellOut kk (by dsimp only; omega) q2
    replace y0 := Kept.cellOut kk (by dsimp only; omega) y0
    replace y1 := Kept.cellOut kk (by dsimp only; omega) y1
    replace y2 := Kept.cellOut kk (by dsimp only; omega) y2
    have z10 := kk.size
    clear kk hd hr gW hxx2
    go_wp2_with fail
    replace D := D.set (p := ⟨w1.heap.size, 2, none⟩) (by dsimp only; omega) (by dsimp only; omega) (.int .i64 x2)
    replace r5 := r5.set_other (p := ⟨w1.heap.size, 2, none⟩) (by dsimp only; omega) (.int .i64 x2)
    replace q0 := cell_aside (.int .i64 x2) (r := ⟨w1.heap.size, 2, none⟩) (by dsimp only; omega) q0
    replace q1 := cell_aside (.int .i64 x2) (r := ⟨w1.heap.size, 2, none⟩) (by dsimp only; omega) q1
    replace q2 := cell_aside (.int .i64 x2) (r := ⟨w1.heap.size, 2, none⟩) (by dsimp only; omega) q2
    replace y0 := cell_off _ _ _ 2 (.int .i64 x2) _ y0 (by decide)
    replace y1 := cell_off _ _ _ 2 (.int .i64 x2) _ y1 (by decide)
    replace y2 : (w9.setCell ⟨w1.heap.size, 2, none⟩ (.int .i64 x2)).cell? ⟨w1.heap.size, 2, none⟩ = some (.int .i64 x2) := cell_on _ _ _ _ _ y2
    replace qf0 : (w9.setCell ⟨w1.heap.size, 2, none⟩ (.int .i64 x2)).frozen? _ = false := (frozen_set _ _ _ _ _).trans qf0
    replace qf1 : (w9.setCell ⟨w1.heap.size, 2, none⟩ (.int .i64 x2)).frozen? _ = false := (frozen_set _ _ _ _ _).trans qf1
    replace qf2 : (w9.setCell ⟨w1.heap.size, 2, none⟩ (.int .i64 x2)).frozen? _ = false := (frozen_set _ _ _ _ _).trans qf2
    replace yf0 : (w9.setCell ⟨w1.heap.size, 2, none⟩ (.int .i64 x2)).frozen? _ = false := (frozen_set _ _ _ _ _).trans yf0
    replace yf1 : (w9.setCell ⟨w1.heap.size, 2, none⟩ (.int .i64 x2)).frozen? _ = false := (frozen_set _ _ _ _ _).trans yf1
    replace yf2 : (w9.setCell ⟨w1.heap.size, 2, none⟩ (.int .i64 x2)).frozen? _ = false := (frozen_set _ _ _ _ _).trans yf2
    have z11 : (w9.setCell ⟨w1.heap.size, 2, none⟩ (.int .i64 x2)).heap.size = w9.heap.size := size_set _ _ _
    replace z11 := Nat.le_of_eq z11.symm
    generalize (w9.setCell ⟨w1.heap.size, 2, none⟩ (.int .i64 x2)) = w12 at *
    have R := hide ((((r5.set_other (p := ⟨w.heap.size, 0, none⟩) (.inl (by dsimp only; omega)) (.bool s5)).set_other (p := ⟨w.heap.size, 1, none⟩) (.inl (by dsimp only; omega)) (.slice a5 zs.length c5)).set_other (p := ⟨w.heap.size, 2, none⟩) (.inl (by dsimp only; omega)) (.int .i64 x2)).tight.wider (lo' := w.heap.size) (by omega) (Nat.le_refl _))
    have DD := hide (((D.set (p := ⟨w.heap.size, 0, none⟩) hg (Nat.le_refl _) (.bool s5)).set (p := ⟨w.heap.size, 1, none⟩) hg (Nat.le_refl _) (.slice a5 zs.length c5)).set (p := ⟨w.heap.size, 2, none⟩) hg (Nat.le_refl _) (.int .i64 x2))
    clear r5 D 
    exact bodyPost_ret (v := .agg #[.bool s5, .slice a5 zs.length c5, .int .i64 x2]) (by simp [results, Tryd.results31, go_sem, q0, q1, q2]) rfl ⟨_, _, _, _, rfl, unhide R, by omega, by omega, unhide DD⟩
  · go_wp2_with fail
    refine (bent3_any g lo _ D.1).mono ?_
    rintro e w9 ⟨v7, s7, z7, rfl, r7, hd⟩
    have kk := hd.2
    replace D := D.trans hd
    replace r5 := r5.kept kk (by omega)
    replace qf0 := Kept.looseOut' kk (by dsimp only; omega) (World.block_lt_of_cell? _ _ q0) qf0
    replace qf1 := Kept.looseOut' kk (by dsimp only; omega) (World.block_lt_of_cell? _ _ q1) qf1
    replace qf2 := Kept.looseOut' kk (by dsimp only; omega) (World.block_lt_of_cell? _ _ q2) qf2
    replace yf0 := Kept.looseOut' kk (by dsimp only; omega) (World.block_lt_of_cell? _ _ y0) yf0
    replace yf1 := Kept.looseOut' kk (by dsimp only; omega) (World.block_lt_of_cell? _ _ y1) yf1
    replace yf2 := Kept.looseOut' kk (by dsimp only; omega) (World.block_lt_of_cell? _ _ y2) yf2
    replace q0 := Kept.cellOut kk (by dsimp only; omega) q0
    replace q1 := Kept.cellOut kk (by dsimp only; omega) q1
    replace q2 := Kept.cellOut kk (by dsimp only; omega) q2
    replace y0 := Kept.cellOut kk (by dsimp only; omega) y0
    replace y1 := Kept.cellOut kk (by dsimp only; omega) y1
    replace y2 := Kept.cellOut kk (by dsimp only; omega) y2
    have z10 := kk.size
    clear kk hd
    obtain ⟨a7, c7, hv⟩ := Row.form' r7
    subst hv
    go_wp2_with fail
    replace D := D.set (p := ⟨w1.heap.size, 0, none⟩) (by dsimp only; omega) (by dsimp only; omega) (.bool s7)
    replace r5 := r5.set_other (p := ⟨w1.heap.size, 0, none⟩) (by dsimp only; omega) (.bool s7)
    replace r7 := r7.set_other (p := ⟨w1.heap.size, 0, none⟩) (by dsimp only; omega) (.bool s7)
    replace q0 := cell_aside (.bool s7) (r := ⟨w1.heap.size, 0, none⟩) (by dsimp only; omega) q0
    replace q1 := cell_aside (.bool s7) (r := ⟨w1.heap.size, 0, none⟩) (by dsimp only; omega) q1
    replace q2 := cell_aside (.bool s7) (r := ⟨w1.heap.size, 0, none⟩) (by dsimp only; omega) q2
    replace y0 : (w9.setCell ⟨w1.heap.size, 0, none⟩ (.bool s7)).cell? ⟨w1.heap.size, 0, none⟩ = some (.bool s7) := cell_on _ _ _ _ _ y0
    replace y1 := cell_off _ _ _ 0 (.bool s7) _ y1 (by decide)
    replace y2 := cell_off _ _ _ 0 (.bool s7) _ y2 (by decide)
    replace qf0 : (w9.setCell ⟨w1.heap.size, 0, none⟩ (.bool s7)).frozen? _ = false := (frozen_set _ _ _ _ _).trans qf0
    replace qf1 : (w9.setCell ⟨w1.heap.size, 0, none⟩ (.bool s7)).frozen? _ = false := (frozen_set _ _ _ _ _).trans qf1
    replace qf2 : (w9.setCell ⟨w1.heap.size, 0, none⟩ (.bool s7)).frozen? _ = false := (frozen_set _ _ _ _ _).trans qf2
    replace yf0 : (w9.setCell ⟨w1.heap.size, 0, none⟩ (.bool s7)).frozen? _ = false := (frozen_set _ _ _ _ _).trans yf0
    replace yf1 : (w9.setCell ⟨w1.heap.size, 0, none⟩ (.bool s7)).frozen? _ = false := (frozen_set _ _ _ _ _).trans yf1
    replace yf2 : (w9.setCell ⟨w1.heap.size, 0, none⟩ (.bool s7)).frozen? _ = false := (frozen_set _ _ _ _ _).trans yf2
    have z11 : (w9.setCell ⟨w1.heap.size, 0, none⟩ (.bool s7)).heap.size = w9.heap.size := size_set _ _ _
    replace z11 := Nat.le_of_eq z11.symm
    replace D := D.set (p := ⟨w1.heap.size, 1, none⟩) (by dsimp only; omega) (by dsimp only; omega) (.slice a7 z7.length c7)
    replace r5 := r5.set_other (p := ⟨w1.heap.size, 1, none⟩) (by dsimp only; omega) (.slice a7 z7.length c7)
    replace r7 := r7.set_other (p := ⟨w1.heap.size, 1, none⟩) (by dsimp only; omega) (.slice a7 z7.length c7)
    replace q0 := cell_aside (.slice a7 z7.length c7) (r := ⟨w1.heap.size, 1, none⟩) (by dsimp only; omega) q0
    replace q1 := cell_aside (.slice a7 z7.length c7) (r := ⟨w1.heap.size, 1, none⟩) (by dsimp only; omega) q1
    replace q2 := cell_aside (.slice a7 z7.length c7) (r := ⟨w1.heap.size, 1, none⟩) (by dsimp only; omega) q2
    replace y0 := cell_off _ _ _ 1 (.slice a7 z7.length c7) _ y0 (by decide)
    replace y1 : ((w9.setCell ⟨w1.heap.size, 0, none⟩ (.bool s7)).setCell ⟨w1.heap.size, 1, none⟩ (.slice a7 z7.length c7)).cell? ⟨w1.heap.size, 1, none⟩ = some (.slice a7 z7.length c7) := cell_on _ _ _ _ _ y1
    replace y2 := cell_off _ _ _ 1 (.slice a7 z7.length c7) _ y2 (by decide)
    replace qf0 : ((w9.setCell ⟨w1.heap.size, 0, none⟩ (.bool s7)).setCell ⟨w1.heap.size, 1, none⟩ (.slice a7 z7.length c7)).frozen? _ = false := (frozen_set _ _ _ _ _).trans qf0
    replace qf1 : ((w9.setCell ⟨w1.heap.size, 0, none⟩ (.bool s7)).setCell ⟨w1.heap.size, 1, none⟩ (.slice a7 z7.length c7)).frozen? _ = false := (frozen_set _ _ _ _ _).trans qf1
    replace qf2 : ((w9.setCell ⟨w1.heap.size, 0, none⟩ (.bool s7)).setCell ⟨w1.heap.size, 1, none⟩ (.slice a7 z7.length c7)).frozen? _ = false := (frozen_set _ _ _ _ _).trans qf2
    replace yf0 : ((w9.setCell ⟨w1.heap.size, 0, none⟩ (.bool s7)).setCell ⟨w1.heap.size, 1, none⟩ (.slice a7 z7.length c7)).frozen? _ = false := (frozen_set _ _ _ _ _).trans yf0
    replace yf1 : ((w9.setCell ⟨w1.heap.size, 0, none⟩ (.bool s7)).setCell ⟨w1.heap.size, 1, none⟩ (.slice a7 z7.length c7)).frozen? _ = false := (frozen_set _ _ _ _ _).trans yf1
    replace yf2 : ((w9.setCell ⟨w1.heap.size, 0, none⟩ (.bool s7)).setCell ⟨w1.heap.size, 1, none⟩ (.slice a7 z7.length c7)).frozen? _ = false := (frozen_set _ _ _ _ _).trans yf2
    have z12 : ((w9.setCell ⟨w1.heap.size, 0, none⟩ (.bool s7)).setCell ⟨w1.heap.size, 1, none⟩ (.slice a7 z7.length c7)).heap.size = (w9.setCell ⟨w1.heap.size, 0, none⟩ (.bool s7)).heap.size := size_set _ _ _
    replace z12 := Nat.le_of_eq z12.symm
    generalize ((w9.setCell ⟨w1.heap.size, 0, none⟩ (.bool s7)).setCell ⟨w1.heap.size, 1, none⟩ (.slice a7 z7.length c7)) = w13 at *
    have R := hide ((((r7.set_other (p := ⟨w.heap.size, 0, none⟩) (.inl (by dsimp only; omega)) (.bool s7)).set_other (p := ⟨w.heap.size, 1, none⟩) (.inl (by dsimp only; omega)) (.slice a7 z7.length c7)).set_other (p := ⟨w.heap.size, 2, none⟩) (.inl (by dsimp only; omega)) (.int .i64 x5)).tight.wider (lo' := w.heap.size) (by omega) (Nat.le_refl _))
    have DD := hide (((D.set (p := ⟨w.heap.size, 0, none⟩) hg (Nat.le_refl _) (.bool s7)).set (p := ⟨w.heap.size, 1, none⟩) hg (Nat.le_refl _) (.slice a7 z7.length c7)).set (p := ⟨w.heap.size, 2, none⟩) hg (Nat.le_refl _) (.int .i64 x5))
    clear r5 r7 D 
    exact bodyPost_ret (v := .agg #[.bool s7, .slice a7 z7.length c7, .int .i64 x5]) (by simp [results, Tryd.results31, go_sem, q0, q1, q2]) rfl ⟨_, _, _, _, rfl, unhide R, by omega, by omega, unhide DD⟩
  · go_wp2_with fail
    replace D := D.set (p := ⟨w1.heap.size, 0, none⟩) (by dsimp only; omega) (by dsimp only; omega) (.bool (!s5))
    replace r5 := r5.set_other (p := ⟨w1.heap.size, 0, none⟩) (by dsimp only; omega) (.bool (!s5))
    replace q0 := cell_aside (.bool (!s5)) (r := ⟨w1.heap.size, 0, none⟩) (by dsimp only; omega) q0
    replace q1 := cell_aside (.bool (!s5)) (r := ⟨w1.heap.size, 0, none⟩) (by dsimp only; omega) q1
    replace q2 := cell_aside (.bool (!s5)) (r := ⟨w1.heap.size, 0, none⟩) (by dsimp only; omega) q2
    replace y0 : (w7.setCell ⟨w1.heap.size, 0, none⟩ (.bool (!s5))).cell? ⟨w1.heap.size, 0, none⟩ = some (.bool (!s5)) := cell_on _ _ _ _ _ y0
    replace y1 := cell_off _ _ _ 0 (.bool (!s5)) _ y1 (by decide)
    replace y2 := cell_off _ _ _ 0 (.bool (!s5)) _ y2 (by decide)
    replace qf0 : (w7.setCell ⟨w1.heap.size, 0, none⟩ (.bool (!s5))).frozen? _ = false := (frozen_set _ _ _ _ _).trans qf0
    replace qf1 : (w7.setCell ⟨w1.heap.size, 0, none⟩ (.bool (!s5))).frozen? _ = false := (frozen_set _ _ _ _ _).trans qf1
    replace qf2 : (w7.setCell ⟨w1.heap.size, 0, none⟩ (.bool (!s5))).frozen? _ = false := (frozen_set _ _ _ _ _).trans qf2
    replace yf0 : (w7.setCell ⟨w1.heap.size, 0, none⟩ (.bool (!s5))).frozen? _ = false := (frozen_set _ _ _ _ _).trans yf0
    replace yf1 : (w7.setCell ⟨w1.heap.size, 0, none⟩ (.bool (!s5))).frozen? _ = false := (frozen_set _ _ _ _ _).trans yf1
    replace yf2 : (w7.setCell ⟨w1.heap.size, 0, none⟩ (.bool (!s5))).frozen? _ = false := (frozen_set _ _ _ _ _).trans yf2
    have z9 : (w7.setCell ⟨w1.heap.size, 0, none⟩ (.bool (!s5))).heap.size = w7.heap.size := size_set _ _ _
    replace z9 := Nat.le_of_eq z9.symm
    generalize (w7.setCell ⟨w1.heap.size, 0, none⟩ (.bool (!s5))) = w10 at *
    have R := hide ((((r5.set_other (p := ⟨w.heap.size, 0, none⟩) (.inl (by dsimp only; omega)) (.bool (!s5))).set_other (p := ⟨w.heap.size, 1, none⟩) (.inl (by dsimp only; omega)) (.slice a5 zs.length c5)).set_other (p := ⟨w.heap.size, 2, none⟩) (.inl (by dsimp only; omega)) (.int .i64 x5)).tight.wider (lo' := w.heap.size) (by omega) (Nat.le_refl _))
    have DD := hide (((D.set (p := ⟨w.heap.size, 0, none⟩) hg (Nat.le_refl _) (.bool (!s5))).set (p := ⟨w.heap.size, 1, none⟩) hg (Nat.le_refl _) (.slice a5 zs.length c5)).set (p := ⟨w.heap.size, 2, none⟩) hg (Nat.le_refl _) (.int .i64 x5))
    clear r5 D 
    exact bodyPost_ret (v := .agg #[.bool (!s5), .slice a5 zs.length c5, .int .i64 x5]) (by simp [results, Tryd.results31, go_sem, q0, q1, q2]) rfl ⟨_, _, _, _, rfl, unhide R, by omega, by omega, unhide DD⟩

end Go.Proofs.YtedknfciomoofaaDoor

