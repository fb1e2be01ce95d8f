/-
  Floats that are numbers, as dyadic ones: l5dy, finiteOf, value, step; FlDy.
-/
import Derived.Test.YtlaelfkhlloglaaDoorFl2
import Derived.Test.YtlaelfkhlloglaaDoorDy7
import Derived.Stop.Asserts
import Derived.Deep.RegionHeld3
import Derived.Deep.DeepCutAuto
namespace Go.Proofs.YtlaelfkhlloglaaDoor
open Go.RowKit
set_option linter.unusedVariables false
set_option maxRecDepth 8000
set_option linter.unusedSimpArgs false

/-- The number before the power of two. -/
def fM (k : Int) (n : Bool) (m : Int) : Int := if k = 1 then (if n = true then -m else m) else 0

theorem fM_zero {k : Int} (h : k ≠ 1) (n : Bool) (m : Int) : fM k n m = 0 := by unfold fM; rw [if_neg h]

theorem limbs_wval (n : Bool) {m : Int} (h : 1 ≤ m) : wval n (limbs m.toNat) = fM 1 n m := by
  unfold wval fM
  rw [limbs_val, if_pos rfl]
  split <;> omega

theorem flok_impl_k {k : Int} {n : Bool} {m e : Int} {b : Bool} (h : flok k n m e = b) (w : World) :
    Calls Tryd.prog 17 #[flv k n m e] w fun r w' => r = .returned (.bool b) ∧ Kept 0 0 w w' :=
  (flok_impl_eq h w).mono fun _ _ h => ⟨h.1, h.2 ▸ (Kept.refl 0 0 w).alloc _⟩

theorem flok_spec_k {k : Int} {n : Bool} {m e : Int} {b : Bool} (h : flok k n m e = b) (w : World) :
    Calls Tryd.prog 26 #[flv k n m e] w fun r w' => r = .returned (.bool b) ∧ Kept 0 0 w w' :=
  (flok_spec_eq h w).mono fun _ _ h => ⟨h.1, h.2 ▸ (Kept.refl 0 0 w).alloc _⟩

theorem toFl_k (k : Int) (n : Bool) (m e : Int) (w : World) :
    Calls Tryd.prog 7 #[flv k n m e] w fun r w' => r = .returned (flv k n m e) ∧ Kept 0 0 w w' :=
  (toFl_any k n m e w).mono fun _ _ h => ⟨h.1, h.2 ▸ (((Kept.refl 0 0 w).alloc _).alloc _).alloc _⟩

theorem ok_ans (m x : Int) (h1 : m.natAbs < 2 ^ 64) (h2 : -2900 ≤ x) (h3 : x ≤ 2900) : ansDB true m x = true := by
  have hl : (dlm m).length ≤ 4 := by
    unfold dlm
    refine (limbs_length_le _ _).2 ?_
    have e : (65536 : Int) ^ 4 = 18446744073709551616 := by decide
    have e2 : (2 : Nat) ^ 64 = 18446744073709551616 := by decide
    have := Nat.div_le_self m.natAbs (2 ^ tz m.natAbs)
    omega
  have hx : -3000 ≤ dex m x ∧ dex m x ≤ 3000 := by
    unfold dex
    split
    · omega
    · have := tz_lt (n := m.natAbs) (k := 64) (by omega) h1
      omega
  unfold ansDB
  rw [dok_told, decide_eq_true (show (dlm m).length ≤ 100 by omega), decide_eq_true hx.1, decide_eq_true hx.2]
  rfl

theorem fM_abs (k : Int) (n : Bool) {m : Int} (h3 : 0 ≤ m) (h4 : m ≤ 9007199254740991) : (fM k n m).natAbs < 2 ^ 64 := by
  have e64 : (2 : Nat) ^ 64 = 18446744073709551616 := by decide
  unfold fM
  rw [e64]
  split
  · split <;> omega
  · omega

theorem in_l4make : ∀ (w : World) (args : Array Value), (callFunc 46 args).run Tryd.prog w = .ok (.enter 46 args) w := enters Tryd.func46 (by decide) (fun h => by cases h)

theorem in_limbsOfInt : ∀ (w : World) (args : Array Value), (callFunc 77 args).run Tryd.prog w = .ok (.enter 77 args) w := enters Tryd.func77 (by decide) (fun h => by cases h)

set_option maxHeartbeats 4000000 in
theorem dy5_num (n : Bool) (m e : Int) (h1 : -1074 ≤ e) (h2 : e ≤ 971) (h3 : 1 ≤ m) (h4 : m ≤ 9007199254740991) (w : World) :
    Calls Tryd.prog 31 #[flv 1 n m e] w fun e' w' => ∃ v', e' = .returned (.agg #[.bool (wsg (fM 1 n m)), v', .int .i64 (dex (fM 1 n m) e)]) ∧ Row .i64 true w.heap.size w'.heap.size w' v' (dlm (fM 1 n m)) ∧ Kept 0 0 w w' := by
  obtain ⟨L, hL⟩ : ∃ L, limbs m.toNat = L := ⟨_, rfl⟩
  have hLn : Nrm L := by rw [← hL]; exact limbs_nrm _
  have hLv : val L = m := by rw [← hL, limbs_val]; omega
  have hLl : L.length ≤ 4 := by
    rw [← hL]
    refine (limbs_length_le _ _).2 ?_
    have e4 : (65536 : Int) ^ 4 = 18446744073709551616 := by decide
    omega
  have hL0 : 0 < L.length := by
    have h0 := limbs_pos m.toNat
    rw [hL, decide_eq_true (show 0 < m.toNat by omega)] at h0
    exact of_decide_eq_true h0
  have mk1 := fun w => of_spec w m (by omega)
  rw [hL] at mk1
  have mk2 : ∀ w' v' lo', Row .i64 true lo' w'.heap.size w' v' L → Calls Tryd.prog 48 #[.bool n, .agg #[v']] w' fun e w'' => ∃ v'', e = .returned (.agg #[.bool n, v'']) ∧ Row .i64 true w'.heap.size w''.heap.size w'' v'' L ∧ Kept 0 0 w' w'' := fun w' v' lo' r' => by
    have := make_spec n w' r' hLn.1 (by omega)
    rw [decide_eq_true hL0, Bool.and_true, hLv, hL] at this
    exact this
  have mk3 := fun w' v' lo' (r' : Row .i64 true lo' w'.heap.size w' v' L) => make4_spec n e (fM 1 n m) (by rw [← hL]; exact limbs_wval n h3) (by omega) (by omega) w' r' ⟨hLn, fun _ => hL0⟩ (by omega)
  obtain ⟨SG, hSG⟩ : ∃ y, wsg (fM 1 n m) = y := ⟨_, rfl⟩
  obtain ⟨ZM, hZM⟩ : ∃ y, dlm (fM 1 n m) = y := ⟨_, rfl⟩
  obtain ⟨EX, hEX⟩ : ∃ y, dex (fM 1 n m) e = y := ⟨_, rfl⟩
  simp only [hSG, hZM, hEX] at mk3 ⊢
  replace mk1 := hide mk1
  replace mk2 := hide mk2
  replace mk3 := hide mk3
  clear hSG hZM hEX hLn hLv hLl hL0 hL
  have k0 : Kept 0 0 w ((w.alloc (.cells #[.int .i64 1, .bool n, .int .i64 m, .int .i64 e] 24)).alloc (.cells #[.bool false, .slice none 0 0, .int .i64 0] 47)) := (((Kept.refl 0 0 w).alloc (.cells #[.int .i64 1, .bool n, .int .i64 m, .int .i64 e] 24)).alloc (.cells #[.bool false, .slice none 0 0, .int .i64 0] 47))
  have p0 : ((w.alloc (.cells #[.int .i64 1, .bool n, .int .i64 m, .int .i64 e] 24)).alloc (.cells #[.bool false, .slice none 0 0, .int .i64 0] 47)).cell? ⟨w.heap.size, 0, none⟩ = some (.int .i64 1) := old_cell _ (new_cell2 _ _ _ _ _ _ (by simp) rfl)
  have p1 : ((w.alloc (.cells #[.int .i64 1, .bool n, .int .i64 m, .int .i64 e] 24)).alloc (.cells #[.bool false, .slice none 0 0, .int .i64 0] 47)).cell? ⟨w.heap.size, 1, none⟩ = some (.bool n) := old_cell _ (new_cell2 _ _ _ _ _ _ (by simp) rfl)
  have p2 : ((w.alloc (.cells #[.int .i64 1, .bool n, .int .i64 m, .int .i64 e] 24)).alloc (.cells #[.bool false, .slice none 0 0, .int .i64 0] 47)).cell? ⟨w.heap.size, 2, none⟩ = some (.int .i64 m) := old_cell _ (new_cell2 _ _ _ _ _ _ (by simp) rfl)
  have p3 : ((w.alloc (.cells #[.int .i64 1, .bool n, .int .i64 m, .int .i64 e] 24)).alloc (.cells #[.bool false, .slice none 0 0, .int .i64 0] 47)).cell? ⟨w.heap.size, 3, none⟩ = some (.int .i64 e) := old_cell _ (new_cell2 _ _ _ _ _ _ (by simp) rfl)
  have q0 : ((w.alloc (.cells #[.int .i64 1, .bool n, .int .i64 m, .int .i64 e] 24)).alloc (.cells #[.bool false, .slice none 0 0, .int .i64 0] 47)).cell? ⟨w.heap.size + 1, 0, none⟩ = some (.bool false) := new_cell2 _ _ _ _ _ _ (by simp) rfl
  have qf0 : ((w.alloc (.cells #[.int .i64 1, .bool n, .int .i64 m, .int .i64 e] 24)).alloc (.cells #[.bool false, .slice none 0 0, .int .i64 0] 47)).frozen? ⟨w.heap.size + 1, 0, none⟩ = false := new_loose2 _ _ _ _ _ (by simp)
  have q1 : ((w.alloc (.cells #[.int .i64 1, .bool n, .int .i64 m, .int .i64 e] 24)).alloc (.cells #[.bool false, .slice none 0 0, .int .i64 0] 47)).cell? ⟨w.heap.size + 1, 1, none⟩ = some (.slice none 0 0) := new_cell2 _ _ _ _ _ _ (by simp) rfl
  have qf1 : ((w.alloc (.cells #[.int .i64 1, .bool n, .int .i64 m, .int .i64 e] 24)).alloc (.cells #[.bool false, .slice none 0 0, .int .i64 0] 47)).frozen? ⟨w.heap.size + 1, 1, none⟩ = false := new_loose2 _ _ _ _ _ (by simp)
  have q2 : ((w.alloc (.cells #[.int .i64 1, .bool n, .int .i64 m, .int .i64 e] 24)).alloc (.cells #[.bool false, .slice none 0 0, .int .i64 0] 47)).cell? ⟨w.heap.size + 1, 2, none⟩ = some (.int .i64 0) := new_cell2 _ _ _ _ _ _ (by simp) rfl
  have qf2 : ((w.alloc (.cells #[.int .i64 1, .bool n, .int .i64 m, .int .i64 e] 24)).alloc (.cells #[.bool false, .slice none 0 0, .int .i64 0] 47)).frozen? ⟨w.heap.size + 1, 2, none⟩ = false := new_loose2 _ _ _ _ _ (by simp)
  have s0 : ((w.alloc (.cells #[.int .i64 1, .bool n, .int .i64 m, .int .i64 e] 24)).alloc (.cells #[.bool false, .slice none 0 0, .int .i64 0] 47)).heap.size = w.heap.size + 2 := by simp
  have K := hide (k0)
  clear k0
  have S0 := hide s0
  clear s0
  go_enter Tryd.func31, Tryd.ntmps31
  go_wp2_with fail
  generalize ((w.alloc (.cells #[.int .i64 1, .bool n, .int .i64 m, .int .i64 e] 24)).alloc (.cells #[.bool false, .slice none 0 0, .int .i64 0] 47)) = W at *
  have n_qf0 := qf0
  have n_q0 := q0
  have n_qf1 := qf1
  have n_q1 := q1
  have n_qf2 := qf2
  have n_q2 := q2
  have kd := (Kept.refl 0 0 W).drew
  replace qf0 := kd.loose0 (World.block_lt_of_cell? _ _ q0) qf0
  replace qf1 := kd.loose0 (World.block_lt_of_cell? _ _ q1) qf1
  replace qf2 := kd.loose0 (World.block_lt_of_cell? _ _ q2) qf2
  replace p0 := kd.cell0 p0
  replace p1 := kd.cell0 p1
  replace p2 := kd.cell0 p2
  replace p3 := kd.cell0 p3
  replace q0 := kd.cell0 q0
  replace q1 := kd.cell0 q1
  replace q2 := kd.cell0 q2
  replace K := hide ((unhide K).trans kd)
  have z1 := kd.size
  clear kd
  refine wp_region_held_drew (S := (fun w' => w'.cell? ⟨w.heap.size, 0, none⟩ = some (.int .i64 1) ∧ w'.cell? ⟨w.heap.size, 1, none⟩ = some (.bool n) ∧ w'.cell? ⟨w.heap.size, 2, none⟩ = some (.int .i64 m) ∧ w'.cell? ⟨w.heap.size, 3, none⟩ = some (.int .i64 e))) (by kernel_rfl) ?_ (fun hHeld => ?_)
  · exact ⟨p0, p1, p2, p3⟩
  refine wpAnyH_take (i := 0) (oi := _) (v := .pointer (some ⟨w.heap.size, 1, none⟩)) rfl (by kernel_rfl) (by kernel_rfl) (by kernel_rfl) (fun _ _ _ h => h) (Or.inl ⟨by rfl, ?_⟩) hHeld ?_
  · intro wq hSw
    try dsimp only at hSw
    go_simp
  try simp only [Act.put, List.getElem_toArray, List.getElem_cons_succ, List.getElem_cons_zero, List.setIfInBounds_toArray, List.set_cons_zero, List.set_cons_succ]
  refine wpAnyH_take (i := 1) (oi := _) (v := .bool n) rfl (by kernel_rfl) (by kernel_rfl) (by kernel_rfl) (fun _ _ _ h => h) (Or.inl ⟨by rfl, ?_⟩) hHeld ?_
  · intro wq hSw
    try dsimp only at hSw
    go_simp
  try simp only [Act.put, List.getElem_toArray, List.getElem_cons_succ, List.getElem_cons_zero, List.setIfInBounds_toArray, List.set_cons_zero, List.set_cons_succ]
  refine wpAnyH_take (i := 2) (oi := _) (v := .pointer (some ⟨w.heap.size, 2, none⟩)) rfl (by kernel_rfl) (by kernel_rfl) (by kernel_rfl) (fun _ _ _ h => h) (Or.inl ⟨by rfl, ?_⟩) hHeld ?_
  · intro wq hSw
    try dsimp only at hSw
    go_simp
  try simp only [Act.put, List.getElem_toArray, List.getElem_cons_succ, List.getElem_cons_zero, List.setIfInBounds_toArray, List.set_cons_zero, List.set_cons_succ]
  refine wpAnyH_take (i := 3) (oi := _) (v := .int .i64 m) rfl (by kernel_rfl) (by kernel_rfl) (by kernel_rfl) (fun _ _ _ h => h) (Or.inl ⟨by rfl, ?_⟩) hHeld ?_
  · intro wq hSw
    try dsimp only at hSw
    go_simp
  try simp only [Act.put, List.getElem_toArray, List.getElem_cons_succ, List.getElem_cons_zero, List.setIfInBounds_toArray, List.set_cons_zero, List.set_cons_succ]
  refine wpAnyH_take (i := 6) (oi := _) (v := .pointer (some ⟨w.heap.size, 3, none⟩)) rfl (by kernel_rfl) (by kernel_rfl) (by kernel_rfl) (fun _ _ _ h => h) (Or.inl ⟨by rfl, ?_⟩) hHeld ?_
  · intro wq hSw
    try dsimp only at hSw
    go_simp
  try simp only [Act.put, List.getElem_toArray, List.getElem_cons_succ, List.getElem_cons_zero, List.setIfInBounds_toArray, List.set_cons_zero, List.set_cons_succ]
  refine wpAnyH_take (i := 7) (oi := _) (v := .int .i64 e) rfl (by kernel_rfl) (by kernel_rfl) (by kernel_rfl) (fun _ _ _ h => h) (Or.inl ⟨by rfl, ?_⟩) hHeld ?_
  · intro wq hSw
    try dsimp only at hSw
    go_simp
  try simp only [Act.put, List.getElem_toArray, List.getElem_cons_succ, List.getElem_cons_zero, List.setIfInBounds_toArray, List.set_cons_zero, List.set_cons_succ]
  refine wpAnyH_ready (rs := [4]) (by kernel_rfl) (by simp) ?_
  refine AllReadyH.cons rfl (fun KK hK => ?_) AllReadyH.nil
  simp only [List.getElem_toArray, List.getElem_cons_succ, List.getElem_cons_zero]
  rw [if_pos (by rfl)]
  refine wps1 49 (.tmp 10) _ rfl in_l2of (.int .i64 m) rfl (unhide mk1 _) ?_
  rintro e w2 ⟨v5, rfl, r5, k2⟩
  refine ⟨_, rfl, ?_⟩
  replace qf0 := k2.loose0 (World.block_lt_of_cell? _ _ q0) qf0
  replace qf1 := k2.loose0 (World.block_lt_of_cell? _ _ q1) qf1
  replace qf2 := k2.loose0 (World.block_lt_of_cell? _ _ q2) qf2
  replace p0 := k2.cell0 p0
  replace p1 := k2.cell0 p1
  replace p2 := k2.cell0 p2
  replace p3 := k2.cell0 p3
  replace q0 := k2.cell0 q0
  replace q1 := k2.cell0 q1
  replace q2 := k2.cell0 q2
  replace K := hide ((unhide K).trans k2)
  have z3 := k2.size
  clear k2
  clear hHeld
  refine hK.out _ _ ?_ (fun hHeld => ?_)
  · exact ⟨p0, p1, p2, p3⟩
  clear hK KK
  try simp only [Act.put, List.getElem_toArray, List.getElem_cons_succ, List.getElem_cons_zero, List.setIfInBounds_toArray, List.set_cons_zero, List.set_cons_succ]
  refine wpAnyH_ready (rs := [5]) (by kernel_rfl) (by simp) ?_
  refine AllReadyH.cons rfl (fun KK hK => ?_) AllReadyH.nil
  simp only [List.getElem_toArray, List.getElem_cons_succ, List.getElem_cons_zero]
  rw [if_pos (by rfl)]
  refine wps2 48 (.tmp 8) (.tmp 11) _ rfl in_l3make (.bool n) (.agg #[v5]) rfl rfl (unhide mk2 _ _ _ r5) ?_
  rintro e w4 ⟨v6, rfl, r6, k4⟩
  refine ⟨_, rfl, ?_⟩
  replace r5 := r5.kept k4 (by omega)
  replace qf0 := k4.loose0 (World.block_lt_of_cell? _ _ q0) qf0
  replace qf1 := k4.loose0 (World.block_lt_of_cell? _ _ q1) qf1
  replace qf2 := k4.loose0 (World.block_lt_of_cell? _ _ q2) qf2
  replace p0 := k4.cell0 p0
  replace p1 := k4.cell0 p1
  replace p2 := k4.cell0 p2
  replace p3 := k4.cell0 p3
  replace q0 := k4.cell0 q0
  replace q1 := k4.cell0 q1
  replace q2 := k4.cell0 q2
  replace K := hide ((unhide K).trans k4)
  have z5 := k4.size
  clear k4
  clear hHeld
  refine hK.out _ _ ?_ (fun hHeld => ?_)
  · exact ⟨p0, p1, p2, p3⟩
  clear hK KK
  try simp only [Act.put, List.getElem_toArray, List.getElem_cons_succ, List.getElem_cons_zero, List.setIfInBounds_toArray, List.set_cons_zero, List.set_cons_succ]
  refine wpAnyH_ready (rs := [8]) (by kernel_rfl) (by simp) ?_
  refine AllReadyH.cons rfl (fun KK hK => ?_) AllReadyH.nil
  simp only [List.getElem_toArray, List.getElem_cons_succ, List.getElem_cons_zero]
  rw [if_pos (by rfl)]
  refine wps2 46 (.tmp 12) (.tmp 14) _ rfl in_l4make (.agg #[.bool n, v6]) (.int .i64 e) rfl rfl (unhide mk3 _ _ _ r6) ?_
  rintro e w6 ⟨v7, rfl, r7, k6⟩
  refine ⟨_, rfl, ?_⟩
  replace r5 := r5.kept k6 (by omega)
  replace r6 := r6.kept k6 (by omega)
  replace qf0 := k6.loose0 (World.block_lt_of_cell? _ _ q0) qf0
  replace qf1 := k6.loose0 (World.block_lt_of_cell? _ _ q1) qf1
  replace qf2 := k6.loose0 (World.block_lt_of_cell? _ _ q2) qf2
  replace p0 := k6.cell0 p0
  replace p1 := k6.cell0 p1
  replace p2 := k6.cell0 p2
  replace p3 := k6.cell0 p3
  replace q0 := k6.cell0 q0
  replace q1 := k6.cell0 q1
  replace q2 := k6.cell0 q2
  replace K := hide ((unhide K).trans k6)
  have z7 := k6.size
  clear k6
  clear hHeld
  refine hK.out _ _ ?_ (fun hHeld => ?_)
  · exact ⟨p0, p1, p2, p3⟩
  clear hK KK
  try simp only [Act.put, List.getElem_toArray, List.getElem_cons_succ, List.getElem_cons_zero, List.setIfInBounds_toArray, List.set_cons_zero, List.set_cons_succ]
  obtain ⟨a7, c7, hv⟩ := Row.form' r7
  subst hv
  refine wpAnyH_ready (rs := [9]) (by kernel_rfl) (by simp) ?_
  refine AllReadyH.cons rfl (fun KK hK => ?_) AllReadyH.nil
  simp only [List.getElem_toArray, List.getElem_cons_succ, List.getElem_cons_zero]
  rw [if_pos (by rfl)]
  go_simp
  clear hHeld
  refine hK.out _ _ ?_ (fun hHeld => ?_)
  · exact ⟨(cell_aside _ (by have := unhide S0; dsimp only; omega) (cell_aside _ (by have := unhide S0; dsimp only; omega) (cell_aside _ (by have := unhide S0; dsimp only; omega) p0))), (cell_aside _ (by have := unhide S0; dsimp only; omega) (cell_aside _ (by have := unhide S0; dsimp only; omega) (cell_aside _ (by have := unhide S0; dsimp only; omega) p1))), (cell_aside _ (by have := unhide S0; dsimp only; omega) (cell_aside _ (by have := unhide S0; dsimp only; omega) (cell_aside _ (by have := unhide S0; dsimp only; omega) p2))), (cell_aside _ (by have := unhide S0; dsimp only; omega) (cell_aside _ (by have := unhide S0; dsimp only; omega) (cell_aside _ (by have := unhide S0; dsimp only; omega) p3)))⟩
  clear hK KK
  try simp only [Act.put, List.getElem_toArray, List.getElem_cons_succ, List.getElem_cons_zero, List.setIfInBounds_toArray, List.set_cons_zero, List.set_cons_succ]
  refine wpAnyH_done (by kernel_rfl) ?_ _
  clear hHeld
  clear mk1 mk2 mk3
  have R := hide ((((r7.set_other (p := ⟨w.heap.size + 1, 0, none⟩) (.inl (by have := unhide S0; dsimp only; omega)) (.bool SG)).set_other (p := ⟨w.heap.size + 1, 1, none⟩) (.inl (by have := unhide S0; dsimp only; omega)) (.slice a7 ZM.length c7)).set_other (p := ⟨w.heap.size + 1, 2, none⟩) (.inl (by have := unhide S0; dsimp only; omega)) (.int .i64 EX)).tight.wider (lo' := w.heap.size) (by have := unhide S0; omega) (Nat.le_refl _))
  have K7 := hide ((((unhide K).setNew (p := ⟨w.heap.size + 1, 0, none⟩) (by simp) (.bool SG)).setNew (p := ⟨w.heap.size + 1, 1, none⟩) (by simp) (.slice a7 ZM.length c7)).setNew (p := ⟨w.heap.size + 1, 2, none⟩) (by simp) (.int .i64 EX))
  clear r5 r6 r7 K 
  go_wp2_with fail
  exact bodyPost_ret (v := .agg #[.bool SG, .slice a7 ZM.length c7, .int .i64 EX]) (by simp [results, Tryd.results31, go_sem, q0, q1, q2]) rfl ⟨_, rfl, unhide R, unhide K7⟩

set_option maxHeartbeats 2000000 in
theorem dy5_nought0 (n : Bool) (w : World) :
    Calls Tryd.prog 31 #[flv 0 n 0 0] w fun e' w' => ∃ v', e' = .returned (.agg #[.bool false, v', .int .i64 0]) ∧ Row .i64 true w.heap.size w'.heap.size w' v' [] ∧ Kept 0 0 w w' := by
  go_enter Tryd.func31, Tryd.ntmps31
  go_wp2
  exact bodyPost_ret (v := .agg #[.bool false, .slice none 0 0, .int .i64 0]) (by simp [results, Tryd.results31, go_sem]) rfl ⟨_, rfl, Row.nil _ _ _ _ _, by repeat first | exact Kept.refl 0 0 _ | apply Kept.alloc⟩

theorem dy5_nought (n : Bool) (w : World) :
    Calls Tryd.prog 31 #[flv 0 n 0 0] w fun e' w' => ∃ v', e' = .returned (.agg #[.bool (wsg (fM 0 n 0)), v', .int .i64 (dex (fM 0 n 0) 0)]) ∧ Row .i64 true w.heap.size w'.heap.size w' v' (dlm (fM 0 n 0)) ∧ Kept 0 0 w w' := by
  rw [fM_zero (by decide), dlm_zero, show wsg 0 = false from rfl, show dex 0 0 = 0 from rfl]
  exact dy5_nought0 n w

theorem fin_num (n : Bool) (m e : Int) (w : World) : (Instr.typeAssert (.iface 66 (.agg #[.bool n, .int .i64 m, .int .i64 e])) 36 86 true).run Tryd.prog w = .ok (.tuple #[.iface 66 (.agg #[.bool n, .int .i64 m, .int .i64 e]), .bool true]) w := by kernel_rfl

theorem value_num (n : Bool) (m e : Int) (w : World) : (method 246 66 (.agg #[.bool n, .int .i64 m, .int .i64 e]) "loop.example/g00382/impl.value").run Tryd.prog w = .ok (126, .agg #[.bool n, .int .i64 m, .int .i64 e]) w := by kernel_rfl

theorem step_num (n : Bool) (m e : Int) (w : World) : (method 246 66 (.agg #[.bool n, .int .i64 m, .int .i64 e]) "loop.example/g00382/impl.step").run Tryd.prog w = .ok (131, .agg #[.bool n, .int .i64 m, .int .i64 e]) w := by kernel_rfl

theorem fin_inf (n : Bool) (m e : Int) (w : World) : (Instr.typeAssert (.iface 67 (.agg #[.bool n])) 36 86 true).run Tryd.prog w = .ok (.tuple #[.nilIface, .bool false]) w := run_typeAssert_lacksB Tryd.underlying86 (by kernel_rfl) (by kernel_rfl) _ _ w

theorem fin_nan (n : Bool) (m e : Int) (w : World) : (Instr.typeAssert (.iface 68 (.agg #[.bool n])) 36 86 true).run Tryd.prog w = .ok (.tuple #[.nilIface, .bool false]) w := run_typeAssert_lacksB Tryd.underlying86 (by kernel_rfl) (by kernel_rfl) _ _ w

theorem fin_nought (n : Bool) (m e : Int) (w : World) : (Instr.typeAssert (.iface 64 (.agg #[.bool n])) 36 86 true).run Tryd.prog w = .ok (.tuple #[.iface 64 (.agg #[.bool n]), .bool true]) w := by kernel_rfl

theorem value_nought (n : Bool) (m e : Int) (w : World) : (method 246 64 (.agg #[.bool n]) "loop.example/g00382/impl.value").run Tryd.prog w = .ok (124, .agg #[.bool n]) w := by kernel_rfl

theorem step_nought (n : Bool) (m e : Int) (w : World) : (method 246 64 (.agg #[.bool n]) "loop.example/g00382/impl.step").run Tryd.prog w = .ok (130, .agg #[.bool n]) w := by kernel_rfl

set_option maxHeartbeats 2000000 in
theorem value_n (n : Bool) (w : World) :
    Calls Tryd.prog 124 #[.agg #[.bool n]] w fun e' w' => ∃ v', e' = .returned (.agg #[v', .bool n, .int .i64 0]) ∧ w'.ownsRow w.heap.size 3 1 v' (([] : List Int)).length ((([] : List Int)).map (Value.int .i64)) ∧ Kept 0 0 w w' := by
  go_enter Tryd.func124, Tryd.ntmps124
  go_wp2
  exact bodyPost_ret (v := .agg #[.slice none 0 0, .bool n, .int .i64 0]) (by simp [results, Tryd.results124, go_sem]) rfl ⟨_, rfl, World.ownsRow_nil _ _ _ _, by repeat first | exact Kept.refl 0 0 _ | apply Kept.alloc⟩

set_option maxHeartbeats 4000000 in
theorem value_m (n : Bool) (m e : Int) (h3 : 1 ≤ m) (h4 : m ≤ 9007199254740991) (w : World) :
    Calls Tryd.prog 126 #[.agg #[.bool n, .int .i64 m, .int .i64 e]] w fun e' w' => ∃ v', e' = .returned (.agg #[v', .bool n, .int .i64 e]) ∧ w'.ownsRow w.heap.size 3 1 v' (limbs m.toNat).length ((limbs m.toNat).map (Value.int .i64)) ∧ Kept 0 0 w w' := by
  have mk1 := fun w => limbsOfInt_impl w m (by omega)
  obtain ⟨zs, hL⟩ : ∃ L, limbs m.toNat = L := ⟨_, rfl⟩
  rw [hL] at mk1 ⊢
  replace mk1 := hide mk1
  clear hL
  have k0 : Kept 0 0 w ((w.alloc (.cells #[.bool n, .int .i64 m, .int .i64 e] 66)).alloc (.cells #[.slice none 0 0, .bool false, .int .i64 0] 57)) := (((Kept.refl 0 0 w).alloc (.cells #[.bool n, .int .i64 m, .int .i64 e] 66)).alloc (.cells #[.slice none 0 0, .bool false, .int .i64 0] 57))
  have p0 : ((w.alloc (.cells #[.bool n, .int .i64 m, .int .i64 e] 66)).alloc (.cells #[.slice none 0 0, .bool false, .int .i64 0] 57)).cell? ⟨w.heap.size, 0, none⟩ = some (.bool n) := old_cell _ (new_cell2 _ _ _ _ _ _ (by simp) rfl)
  have p1 : ((w.alloc (.cells #[.bool n, .int .i64 m, .int .i64 e] 66)).alloc (.cells #[.slice none 0 0, .bool false, .int .i64 0] 57)).cell? ⟨w.heap.size, 1, none⟩ = some (.int .i64 m) := old_cell _ (new_cell2 _ _ _ _ _ _ (by simp) rfl)
  have p2 : ((w.alloc (.cells #[.bool n, .int .i64 m, .int .i64 e] 66)).alloc (.cells #[.slice none 0 0, .bool false, .int .i64 0] 57)).cell? ⟨w.heap.size, 2, none⟩ = some (.int .i64 e) := old_cell _ (new_cell2 _ _ _ _ _ _ (by simp) rfl)
  have q0 : ((w.alloc (.cells #[.bool n, .int .i64 m, .int .i64 e] 66)).alloc (.cells #[.slice none 0 0, .bool false, .int .i64 0] 57)).cell? ⟨w.heap.size + 1, 0, none⟩ = some (.slice none 0 0) := new_cell2 _ _ _ _ _ _ (by simp) rfl
  have qf0 : ((w.alloc (.cells #[.bool n, .int .i64 m, .int .i64 e] 66)).alloc (.cells #[.slice none 0 0, .bool false, .int .i64 0] 57)).frozen? ⟨w.heap.size + 1, 0, none⟩ = false := new_loose2 _ _ _ _ _ (by simp)
  have q1 : ((w.alloc (.cells #[.bool n, .int .i64 m, .int .i64 e] 66)).alloc (.cells #[.slice none 0 0, .bool false, .int .i64 0] 57)).cell? ⟨w.heap.size + 1, 1, none⟩ = some (.bool false) := new_cell2 _ _ _ _ _ _ (by simp) rfl
  have qf1 : ((w.alloc (.cells #[.bool n, .int .i64 m, .int .i64 e] 66)).alloc (.cells #[.slice none 0 0, .bool false, .int .i64 0] 57)).frozen? ⟨w.heap.size + 1, 1, none⟩ = false := new_loose2 _ _ _ _ _ (by simp)
  have q2 : ((w.alloc (.cells #[.bool n, .int .i64 m, .int .i64 e] 66)).alloc (.cells #[.slice none 0 0, .bool false, .int .i64 0] 57)).cell? ⟨w.heap.size + 1, 2, none⟩ = some (.int .i64 0) := new_cell2 _ _ _ _ _ _ (by simp) rfl
  have qf2 : ((w.alloc (.cells #[.bool n, .int .i64 m, .int .i64 e] 66)).alloc (.cells #[.slice none 0 0, .bool false, .int .i64 0] 57)).frozen? ⟨w.heap.size + 1, 2, none⟩ = false := new_loose2 _ _ _ _ _ (by simp)
  have s0 : ((w.alloc (.cells #[.bool n, .int .i64 m, .int .i64 e] 66)).alloc (.cells #[.slice none 0 0, .bool false, .int .i64 0] 57)).heap.size = w.heap.size + 2 := by simp
  have K := hide (k0)
  clear k0
  have S0 := hide s0
  clear s0
  go_enter Tryd.func126, Tryd.ntmps126
  go_wp2_with fail
  generalize ((w.alloc (.cells #[.bool n, .int .i64 m, .int .i64 e] 66)).alloc (.cells #[.slice none 0 0, .bool false, .int .i64 0] 57)) = W at *
  have n_qf0 := qf0
  have n_q0 := q0
  have n_qf1 := qf1
  have n_q1 := q1
  have n_qf2 := qf2
  have n_q2 := q2
  have kd := (Kept.refl 0 0 W).drew
  replace qf0 := kd.loose0 (World.block_lt_of_cell? _ _ q0) qf0
  replace qf1 := kd.loose0 (World.block_lt_of_cell? _ _ q1) qf1
  replace qf2 := kd.loose0 (World.block_lt_of_cell? _ _ q2) qf2
  replace p0 := kd.cell0 p0
  replace p1 := kd.cell0 p1
  replace p2 := kd.cell0 p2
  replace q0 := kd.cell0 q0
  replace q1 := kd.cell0 q1
  replace q2 := kd.cell0 q2
  replace K := hide ((unhide K).trans kd)
  have z1 := kd.size
  clear kd
  refine wp_region_held_drew (S := (fun w' => w'.cell? ⟨w.heap.size, 0, none⟩ = some (.bool n) ∧ w'.cell? ⟨w.heap.size, 1, none⟩ = some (.int .i64 m) ∧ w'.cell? ⟨w.heap.size, 2, none⟩ = some (.int .i64 e))) (by kernel_rfl) ?_ (fun hHeld => ?_)
  · exact ⟨p0, p1, p2⟩
  refine wpAnyH_take (i := 0) (oi := _) (v := .pointer (some ⟨w.heap.size, 1, none⟩)) rfl (by kernel_rfl) (by kernel_rfl) (by kernel_rfl) (fun _ _ _ h => h) (Or.inl ⟨by rfl, ?_⟩) hHeld ?_
  · intro wq hSw
    try dsimp only at hSw
    go_simp
  try simp only [Act.put, List.getElem_toArray, List.getElem_cons_succ, List.getElem_cons_zero, List.setIfInBounds_toArray, List.set_cons_zero, List.set_cons_succ]
  refine wpAnyH_take (i := 1) (oi := _) (v := .int .i64 m) rfl (by kernel_rfl) (by kernel_rfl) (by kernel_rfl) (fun _ _ _ h => h) (Or.inl ⟨by rfl, ?_⟩) hHeld ?_
  · intro wq hSw
    try dsimp only at hSw
    go_simp
  try simp only [Act.put, List.getElem_toArray, List.getElem_cons_succ, List.getElem_cons_zero, List.setIfInBounds_toArray, List.set_cons_zero, List.set_cons_succ]
  refine wpAnyH_take (i := 3) (oi := _) (v := .pointer (some ⟨w.heap.size, 0, none⟩)) rfl (by kernel_rfl) (by kernel_rfl) (by kernel_rfl) (fun _ _ _ h => h) (Or.inl ⟨by rfl, ?_⟩) hHeld ?_
  · intro wq hSw
    try dsimp only at hSw
    go_simp
  try simp only [Act.put, List.getElem_toArray, List.getElem_cons_succ, List.getElem_cons_zero, List.setIfInBounds_toArray, List.set_cons_zero, List.set_cons_succ]
  refine wpAnyH_take (i := 4) (oi := _) (v := .pointer (some ⟨w.heap.size, 0, none⟩)) rfl (by kernel_rfl) (by kernel_rfl) (by kernel_rfl) (fun _ _ _ h => h) (Or.inl ⟨by rfl, ?_⟩) hHeld ?_
  · intro wq hSw
    try dsimp only at hSw
    go_simp
  try simp only [Act.put, List.getElem_toArray, List.getElem_cons_succ, List.getElem_cons_zero, List.setIfInBounds_toArray, List.set_cons_zero, List.set_cons_succ]
  refine wpAnyH_take (i := 5) (oi := _) (v := .bool n) rfl (by kernel_rfl) (by kernel_rfl) (by kernel_rfl) (fun _ _ _ h => h) (Or.inl ⟨by rfl, ?_⟩) hHeld ?_
  · intro wq hSw
    try dsimp only at hSw
    go_simp
  try simp only [Act.put, List.getElem_toArray, List.getElem_cons_succ, List.getElem_cons_zero, List.setIfInBounds_toArray, List.set_cons_zero, List.set_cons_succ]
  refine wpAnyH_take (i := 7) (oi := _) (v := .pointer (some ⟨w.heap.size, 2, none⟩)) rfl (by kernel_rfl) (by kernel_rfl) (by kernel_rfl) (fun _ _ _ h => h) (Or.inl ⟨by rfl, ?_⟩) hHeld ?_
  · intro wq hSw
    try dsimp only at hSw
    go_simp
  try simp only [Act.put, List.getElem_toArray, List.getElem_cons_succ, List.getElem_cons_zero, List.setIfInBounds_toArray, List.set_cons_zero, List.set_cons_succ]
  refine wpAnyH_take (i := 8) (oi := _) (v := .int .i64 e) rfl (by kernel_rfl) (by kernel_rfl) (by kernel_rfl) (fun _ _ _ h => h) (Or.inl ⟨by rfl, ?_⟩) hHeld ?_
  · intro wq hSw
    try dsimp only at hSw
    go_simp
  try simp only [Act.put, List.getElem_toArray, List.getElem_cons_succ, List.getElem_cons_zero, List.setIfInBounds_toArray, List.set_cons_zero, List.set_cons_succ]
  refine wpAnyH_ready (rs := [2]) (by kernel_rfl) (by simp) ?_
  refine AllReadyH.cons rfl (fun KK hK => ?_) AllReadyH.nil
  simp only [List.getElem_toArray, List.getElem_cons_succ, List.getElem_cons_zero]
  rw [if_pos (by rfl)]
  refine wps1 77 (.tmp 4) _ rfl in_limbsOfInt (.int .i64 m) rfl (unhide mk1 _) ?_
  rintro e w2 ⟨v3, rfl, o3, k2⟩
  refine ⟨_, rfl, ?_⟩
  replace qf0 := k2.loose0 (World.block_lt_of_cell? _ _ q0) qf0
  replace qf1 := k2.loose0 (World.block_lt_of_cell? _ _ q1) qf1
  replace qf2 := k2.loose0 (World.block_lt_of_cell? _ _ q2) qf2
  replace p0 := k2.cell0 p0
  replace p1 := k2.cell0 p1
  replace p2 := k2.cell0 p2
  replace q0 := k2.cell0 q0
  replace q1 := k2.cell0 q1
  replace q2 := k2.cell0 q2
  replace K := hide ((unhide K).trans k2)
  have z3 := k2.size
  clear k2
  clear hHeld
  refine hK.out _ _ ?_ (fun hHeld => ?_)
  · exact ⟨p0, p1, p2⟩
  clear hK KK
  try simp only [Act.put, List.getElem_toArray, List.getElem_cons_succ, List.getElem_cons_zero, List.setIfInBounds_toArray, List.set_cons_zero, List.set_cons_succ]
  obtain ⟨a3, c3, hv⟩ := own_slice o3
  subst hv
  refine wpAnyH_take (i := 6) (oi := _) (v := .agg #[.slice a3 zs.length c3, .bool n]) rfl (by kernel_rfl) (by kernel_rfl) (by kernel_rfl) (fun _ _ _ h => h) (Or.inl ⟨by rfl, ?_⟩) hHeld ?_
  · intro wq hSw
    try dsimp only at hSw
    go_simp
  try simp only [Act.put, List.getElem_toArray, List.getElem_cons_succ, List.getElem_cons_zero, List.setIfInBounds_toArray, List.set_cons_zero, List.set_cons_succ]
  refine wpAnyH_take (i := 9) (oi := _) (v := .agg #[.slice a3 zs.length c3, .bool n, .int .i64 e]) rfl (by kernel_rfl) (by kernel_rfl) (by kernel_rfl) (fun _ _ _ h => h) (Or.inl ⟨by rfl, ?_⟩) hHeld ?_
  · intro wq hSw
    try dsimp only at hSw
    go_simp
  try simp only [Act.put, List.getElem_toArray, List.getElem_cons_succ, List.getElem_cons_zero, List.setIfInBounds_toArray, List.set_cons_zero, List.set_cons_succ]
  refine wpAnyH_ready (rs := [10]) (by kernel_rfl) (by simp) ?_
  refine AllReadyH.cons rfl (fun KK hK => ?_) AllReadyH.nil
  simp only [List.getElem_toArray, List.getElem_cons_succ, List.getElem_cons_zero]
  rw [if_pos (by rfl)]
  go_simp
  clear hHeld
  refine hK.out _ _ ?_ (fun hHeld => ?_)
  · exact ⟨(cell_aside _ (by have := unhide S0; dsimp only; omega) (cell_aside _ (by have := unhide S0; dsimp only; omega) (cell_aside _ (by have := unhide S0; dsimp only; omega) p0))), (cell_aside _ (by have := unhide S0; dsimp only; omega) (cell_aside _ (by have := unhide S0; dsimp only; omega) (cell_aside _ (by have := unhide S0; dsimp only; omega) p1))), (cell_aside _ (by have := unhide S0; dsimp only; omega) (cell_aside _ (by have := unhide S0; dsimp only; omega) (cell_aside _ (by have := unhide S0; dsimp only; omega) p2)))⟩
  clear hK KK
  try simp only [Act.put, List.getElem_toArray, List.getElem_cons_succ, List.getElem_cons_zero, List.setIfInBounds_toArray, List.set_cons_zero, List.set_cons_succ]
  refine wpAnyH_done (by kernel_rfl) ?_ _
  clear hHeld
  have o3l := o3.lt
  have O := hide (own_less (own_apart (own_apart (own_apart o3 (p := ⟨w.heap.size + 1, 0, none⟩) (fun e => by have := (o3l _ e).1; have := unhide S0; dsimp only at *; omega) (.slice a3 zs.length c3)) (p := ⟨w.heap.size + 1, 1, none⟩) (fun e => by have := (o3l _ e).1; have := unhide S0; dsimp only at *; omega) (.bool n)) (p := ⟨w.heap.size + 1, 2, none⟩) (fun e => by have := (o3l _ e).1; have := unhide S0; dsimp only at *; omega) (.int .i64 e)) (base' := w.heap.size) (by have := unhide S0; omega))
  have K7 := hide ((((unhide K).setNew (p := ⟨w.heap.size + 1, 0, none⟩) (by simp) (.slice a3 zs.length c3)).setNew (p := ⟨w.heap.size + 1, 1, none⟩) (by simp) (.bool n)).setNew (p := ⟨w.heap.size + 1, 2, none⟩) (by simp) (.int .i64 e))
  clear o3 o3l K mk1
  go_wp2_with fail
  exact bodyPost_ret (v := .agg #[.slice a3 zs.length c3, .bool n, .int .i64 e]) (by simp [results, Tryd.results126, go_sem, q0, q1, q2]) rfl ⟨_, rfl, unhide O, unhide K7⟩

end Go.Proofs.YtlaelfkhlloglaaDoor
